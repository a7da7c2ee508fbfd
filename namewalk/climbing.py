"""Climbs: where a folder is, found upwards while deeds are done."""

from namewalk.rows import all_played, played, views_of
from namewalk.trees import ROOT, Gone
from namewalk.views import ended_in
from namewalk.walking import Refused


class Climb:
    """A climb under way: the folder that it has come to, and the names from there down to the place."""

    def __init__(self, at, names):
        self.at = at
        self.names = names
        self.result = "/" + "/".join(names) if at == ROOT else None

    def looked(self, view):
        """The climb after its next look."""
        if isinstance(view.nodes[self.at], Gone):
            ended = Climb(self.at, self.names)
            ended.result = Refused("gone")
            return ended
        folder, name = view.homes[self.at]
        return Climb(folder, (name,) + self.names)


def begun_climb(place):
    return Climb(place, ())


def climb(tree, deeds, place, weaving):
    """The text of the path to the place that a climb finds, or Refused."""
    views = views_of(tree, deeds, place)
    return played(views, begun_climb(place), weaving)


def climbs(tree, deeds, place):
    """All (text or Refused, number of weavings, whether a whole climb at some moment ends so)."""
    views = views_of(tree, deeds, place)
    found = all_played(views, begun_climb(place))
    whole = [ended_in(view, begun_climb(place)) for view in views]
    counts = {}
    for text in found:
        if not isinstance(text, Refused):
            counts[text] = counts.get(text, 0) + 1
    rows = [(text, counts[text], text in whole) for text in sorted(counts)]
    gone = Refused("gone")
    if gone in found:
        rows.append((gone, found.count(gone), gone in whole))
    return rows
