"""Reach: all results that a walk can have while others do whatever they may."""

from namewalk.grounds import FILE, FOLDER, LINK, Ground, kind_of
from namewalk.others import check_others
from namewalk.roaming import WHYS, Roamer, stretch
from namewalk.trees import check_place
from namewalk.walking import Came, Refused, begun

KINDS = (FOLDER, FILE, LINK)


class New:
    """The result of a walk that has come to a node that others made."""

    def __init__(self, kind):
        self.kind = kind

    def __eq__(self, other):
        return isinstance(other, New) and self.kind == other.kind


class Reach:
    """All that can become of a walk under way; nodes from the number old on are told as new ones."""

    def __init__(self, tree, others, going, old):
        self.roamer = Roamer(Ground(tree, others), going.look)
        self.old = old
        self.begun = self.roamer.state(going.at, going.links)
        self.pairs = stretch(going.steps, going.wants)
        self.ends = self.roamer.passes_all(self.begun, self.pairs)

    def ends_with(self, result):
        """All ends that have this result, also those to which the walk cannot come."""
        if isinstance(result, Refused):
            return self.roamer.refused(result.why) if result.why in WHYS else 0
        ends = 0
        for number, kind in enumerate(self.roamer.ground.kinds):
            if result == (Came(number) if number < self.old else New(kind)):
                ends = ends | self.roamer.ends_at(number)
        return ends

    def has(self, result):
        return (self.ends & self.ends_with(result)) != 0

    def all_results(self):
        """The results that the walk can have, in their order."""
        possible = [Came(number) for number in range(self.old)]
        possible.extend([New(kind) for kind in KINDS])
        possible.extend([Refused(why) for why in WHYS])
        return [result for result in possible if self.has(result)]

    def stood_at(self, folder):
        """Whether the walk can stand at the folder before a look."""
        return (self.ends & self.roamer.stood(folder)) != 0


def told_result(tree, result, old):
    """The result of a walk, with New for a node from the number old on."""
    if isinstance(result, Came) and result.node >= old:
        return New(kind_of(tree.nodes[result.node]))
    return result


def reach_of(tree, others, place, path, look):
    """What can become of the whole walk; the others and the place must be those of the tree."""
    check_others(tree, others)
    check_place(tree, place)
    return Reach(tree, others, begun(place, path, look), len(tree.nodes))


def reach(tree, others, place, path, look):
    """All results that the walk can have."""
    return reach_of(tree, others, place, path, look).all_results()


def touched(tree, others, place, path, look):
    """The folders of theirs at which the walk can stand before a look."""
    found = reach_of(tree, others, place, path, look)
    theirs = [number for number in range(len(tree.nodes)) if number in others.folders]
    return [number for number in theirs if found.stood_at(number)]
