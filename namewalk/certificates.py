"""Certificates: rows of deeds and looks by which a walk comes to a result."""

from namewalk.leading import Leader
from namewalk.others import check_others
from namewalk.plans import Planner
from namewalk.reaching import reach_of, told_result
from namewalk.scenes import Scene
from namewalk.trees import check_place
from namewalk.walking import begun

LOOK = "look"


class Certificate:
    """A row of parts, each a deed or "look"."""

    def __init__(self, parts):
        self.parts = tuple(parts)

    def __eq__(self, other):
        return isinstance(other, Certificate) and self.parts == other.parts


def certificate(tree, others, place, path, look, result):
    """A certificate for the result, or None if the walk cannot have it."""
    found = reach_of(tree, others, place, path, look)
    ends = found.ends & found.ends_with(result)
    if ends == 0:
        return None
    plan = Planner(found.roamer).along(found.begun, found.pairs, ends & -ends)
    leader = Leader(tree, others)
    leader.leads(begun(place, path, look), plan, found.roamer.ground.kinds)
    return Certificate(leader.parts)


def holds(tree, others, place, path, look, result, certificate):
    """Whether the others may do the certificate's deeds, and its looks lead the walk to the result."""
    check_others(tree, others)
    check_place(tree, place)
    scene = Scene(tree, others, begun(place, path, look), ())
    for part in certificate.parts:
        scene = after_part(scene, part)
        if scene is None:
            return False
    if len(certificate.parts) > 0 and certificate.parts[-1] != LOOK:
        return False
    ended = scene.going.result
    return ended is not None and told_result(scene.tree, ended, len(tree.nodes)) == result


def after_part(scene, part):
    """The scene after a deed or a look, or None if this cannot come next."""
    if part != LOOK:
        return scene.after_deed(part)
    if scene.going.result is not None:
        return None
    return scene.after_look()
