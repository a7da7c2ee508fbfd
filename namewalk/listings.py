"""Listings: what is met below a folder while deeds are done."""

from namewalk.rows import all_played, played, views_of
from namewalk.trees import Folder, Gone


class Listing:
    """A listing under way: where it looks next, what is to be met behind that, and what it has met."""

    def __init__(self, at, waiting, met):
        self.at = at
        self.waiting = waiting
        self.met = met
        self.result = None

    def looked(self, view):
        """The listing after its next look."""
        # The entries of a folder are kept by ascending names, and so are those of a view.
        waiting = tuple(view.names[self.at].values()) + self.waiting
        for index, number in enumerate(waiting):
            if isinstance(view.nodes[number], (Folder, Gone)):
                return Listing(number, waiting[index + 1:], self.met + waiting[:index + 1])
        ended = Listing(None, (), self.met + waiting)
        ended.result = ended.met
        return ended


def begun_listing(place):
    return Listing(place, (), ())


def listing(tree, deeds, place, weaving):
    """The nodes that are met below the place, in order."""
    views = views_of(tree, deeds, place)
    return list(played(views, begun_listing(place), weaving))


def listings(tree, deeds, place):
    """All lists of nodes that can be met, each with the number of its weavings."""
    views = views_of(tree, deeds, place)
    counts = {}
    for met in all_played(views, begun_listing(place)):
        counts[met] = counts.get(met, 0) + 1
    return [(list(met), counts[met]) for met in sorted(counts)]
