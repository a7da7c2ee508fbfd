"""Walks: how a path leads from folder to folder through a tree."""

from namewalk.errors import NoOwner
from namewalk.kinds import is_owner
from namewalk.trees import ROOT, File, Link, check_place
from namewalk.views import View, ended_in

MOST_LINKS = 8


class Look:
    """How a walk looks: whether it follows links, also at the last step, and whose nodes it takes."""

    def __init__(self, follow, last, owners):
        self.follow = follow
        self.last = last
        self.owners = None if owners is None else tuple(owners)
        for owner in self.owners or ():
            if not is_owner(owner):
                raise NoOwner(owner)

    def __eq__(self, other):
        return (isinstance(other, Look) and self.follow == other.follow and self.last == other.last
                and self.owners == other.owners)


class Came:
    """The result of a walk that has come to a node."""

    def __init__(self, node):
        self.node = node

    def __eq__(self, other):
        return isinstance(other, Came) and self.node == other.node


class Refused:
    """The result of a walk that was refused."""

    def __init__(self, why):
        self.why = why

    def __eq__(self, other):
        return isinstance(other, Refused) and self.why == other.why


class Going:
    """A walk under way: where it stands, its steps left, whether it wants a folder, how many links it followed.

    Its result is None as long as it is not at its end.
    """

    def __init__(self, look, at, steps, wants, links):
        self.look = look
        self.at = at
        self.steps = steps
        self.wants = wants
        self.links = links
        self.result = Came(at) if len(steps) == 0 else None

    def looked(self, view):
        """The walk after its next look."""
        return self.taken(view, self.found(view))

    def found(self, view):
        """The node to which the next look leads at first, or None."""
        return view.led(self.at, self.steps[0])

    def taken(self, view, number):
        """The walk after a look that has found the node with this number, or None."""
        if number is None:
            return self.refused("none")
        node = view.nodes[number]
        if self.look.owners is not None and node.owner not in self.look.owners:
            return self.refused("owner")
        goes_on = len(self.steps) > 1 or self.wants
        if isinstance(node, File) and goes_on:
            return self.refused("file")
        if isinstance(node, Link) and self.look.follow and (goes_on or self.look.last):
            return self.followed(view.paths[number])
        if isinstance(node, Link) and goes_on:
            return self.refused("link")
        return Going(self.look, number, self.steps[1:], self.wants, self.links)

    def followed(self, path):
        """The walk after it has followed the link with this path, which its next look has found."""
        if self.links == MOST_LINKS:
            return self.refused("links")
        left = self.steps[1:]
        wants = self.wants or (len(left) == 0 and path.folder)
        return Going(self.look, beginning(self.at, path), path.steps + left, wants, self.links + 1)

    def refused(self, why):
        ended = Going(self.look, self.at, self.steps, self.wants, self.links)
        ended.result = Refused(why)
        return ended

    def state(self):
        """What tells this walk from others with the same look, as a key of a dict."""
        if isinstance(self.result, Came):
            return "came", self.result.node
        if isinstance(self.result, Refused):
            return "refused", self.result.why
        return self.at, self.steps, self.wants, self.links


def beginning(at, path):
    """Where the path begins for a walk that stands at a folder."""
    return ROOT if path.absolute else at


def begun(place, path, look):
    """The walk before its first look; it is at its end at once if the path has no steps."""
    return Going(look, beginning(place, path), path.steps, path.folder, 0)


def walk(tree, place, path, look):
    check_place(tree, place)
    return ended_in(View(tree), begun(place, path, look))


def stands(tree, place, path, look):
    """The nodes at which the walk stands before each look, and that to which it has come."""
    check_place(tree, place)
    view = View(tree)
    going = begun(place, path, look)
    places = [going.at]
    while going.result is None:
        going = going.looked(view)
        if not isinstance(going.result, Refused):
            places.append(going.at)
    return places
