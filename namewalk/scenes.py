"""Scenes: moments of a play in which others do deeds while a walk goes on."""

from namewalk.deeds import changed, is_folder
from namewalk.others import Others, may
from namewalk.views import View


class Scene:
    """A moment of a play: the tree, the others, the walk under way or None, and the results of those before.

    The others have the folders that are theirs at this moment.
    """

    def __init__(self, tree, others, going, outcomes):
        self.tree = tree
        self.others = others
        self.going = going
        self.outcomes = outcomes

    def with_walk(self, going):
        """The moment after the walk has come so far."""
        return Scene(self.tree, self.others, going, self.outcomes)

    def after_look(self):
        """The moment after the next look of the walk, which must not be at its end."""
        return self.with_walk(self.going.looked(View(self.tree)))

    def after_deed(self, deed):
        """The moment after a deed of the others, or None if they may not do it."""
        if not may(self.tree, self.others, deed):
            return None
        tree = changed(self.tree, deed)
        made = range(len(self.tree.nodes), len(tree.nodes))
        theirs = [number for number in self.others.folders + tuple(made) if is_folder(tree, number)]
        return Scene(tree, Others(self.others.owner, theirs), self.going, self.outcomes)

    def without_walk(self):
        """The moment at which the walk, which is at its end, is no more under way."""
        return Scene(self.tree, self.others, None, self.outcomes + (self.going.result,))
