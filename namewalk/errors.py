"""The errors of the package.

Each error defines told() itself, so that none answers with another one's name.
"""


class WalkError(ValueError):
    """The base of all errors of the package."""

    def told(self):
        return "refused walkerror"


class NoTree(WalkError):
    """The nodes are no tree: why tells what is wrong, node where."""

    def __init__(self, why, node):
        self.why = why
        self.node = node

    def told(self):
        return "refused notree"


class NoNode(WalkError):
    """There is no such node, or none of the kind that is asked for."""

    def __init__(self, node):
        self.node = node

    def told(self):
        return "refused nonode"


class BadText(WalkError):
    """A text cannot be read: place tells where the first wrong part is."""

    def __init__(self, place):
        self.place = place

    def told(self):
        return "refused badtext"


class NoPath(WalkError):
    """No text is read as such a path."""

    def told(self):
        return "refused nopath"


class NoOwner(WalkError):
    """This is no owner."""

    def __init__(self, owner):
        self.owner = owner

    def told(self):
        return "refused noowner"


class NoDeed(WalkError):
    """A deed cannot be done: why tells what is in its way."""

    def __init__(self, why):
        self.why = why

    def told(self):
        return "refused nodeed"


class NoRow(WalkError):
    """The deed at this index of a row cannot be done."""

    def __init__(self, index, why):
        self.index = index
        self.why = why

    def told(self):
        return "refused norow"


class NoWeaving(WalkError):
    """These numbers are no weaving of the looks and the deeds."""

    def told(self):
        return "refused noweaving"


class Large(WalkError):
    """There is more to go through than is allowed."""

    def __init__(self, count):
        self.count = count

    def told(self):
        return "refused large"


class Busy(WalkError):
    """A walk is under way already."""

    def told(self):
        return "refused busy"


class Idle(WalkError):
    """No walk is under way."""

    def told(self):
        return "refused idle"


class Forbidden(WalkError):
    """The others may not do this deed."""

    def told(self):
        return "refused forbidden"


class NoBack(WalkError):
    """There is nothing to be undone."""

    def told(self):
        return "refused noback"
