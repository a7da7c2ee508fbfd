"""Sessions: walks that are played among the deeds of others."""

from namewalk.errors import Busy, Forbidden, Idle, NoBack
from namewalk.others import check_others
from namewalk.reaching import Reach
from namewalk.scenes import Scene
from namewalk.trees import check_place
from namewalk.walking import begun


class Session:
    """A play of walks in a tree that others change."""

    def __init__(self, tree, others):
        check_others(tree, others)
        self.old = len(tree.nodes)
        self.scene = Scene(tree, others, None, ())
        self.past = []

    def begin(self, place, path, look):
        """Begin a walk in the present tree."""
        if self.scene.going is not None:
            raise Busy()
        check_place(self.scene.tree, place)
        self.come_to(self.scene.with_walk(begun(place, path, look)))

    def step(self):
        """Do one look, and return the result, or None if the walk is not at its end."""
        going = self.walk_under_way()
        # A walk without steps is at its end before any look.
        scene = self.scene.after_look() if going.result is None else self.scene
        result = scene.going.result
        self.come_to(scene if result is None else scene.without_walk())
        return result

    def do(self, deed):
        """Do a deed of the others."""
        scene = self.scene.after_deed(deed)
        if scene is None:
            raise Forbidden()
        self.come_to(scene)

    def now(self):
        """The present tree."""
        return self.scene.tree

    def can(self):
        """The results that the walk under way can still have."""
        going = self.walk_under_way()
        return Reach(self.scene.tree, self.scene.others, going, self.old).all_results()

    def history(self):
        """The results of the ended walks."""
        return list(self.scene.outcomes)

    def back(self):
        """Undo the last begin, step or do."""
        if len(self.past) == 0:
            raise NoBack()
        self.scene = self.past.pop()

    def many(self):
        """The number of what can be undone."""
        return len(self.past)

    def walk_under_way(self):
        if self.scene.going is None:
            raise Idle()
        return self.scene.going

    def come_to(self, scene):
        """Make this the present scene, from which back leads to the one before."""
        self.past.append(self.scene)
        self.scene = scene
