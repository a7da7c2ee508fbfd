"""Points [7] and [17] read once more: deeds of others and looks, played one after the other."""

from namewalk.deeds import Put, done
from namewalk.errors import NoDeed
from namewalk.trees import File, Folder, Gone, Link, above
from tests.plain import PlainWalk


def plain_may(tree, owner, theirs, deed):
    """The tree after a deed, or None if users with this owner and these folders may not do it."""
    try:
        after = done(tree, deed)
    except NoDeed:
        return None
    if deed.folder not in theirs or getattr(deed, "goal", deed.folder) not in theirs:
        return None
    if len(after.nodes) > len(tree.nodes) and after.nodes[-1].owner != owner:
        return None
    if isinstance(deed, Put) and tree.nodes[deed.node].owner != owner:
        return None
    for number, node in enumerate(tree.nodes):
        # Folders that stand in another folder afterwards, or are gone.
        if isinstance(node, Folder) and number not in theirs:
            if isinstance(after.nodes[number], Gone) or above(after, number) != above(tree, number):
                return None
    return after


class PlainPlay:
    """A walk among deeds of others, whose folders are those that are theirs at each moment."""

    def __init__(self, tree, others, place, path, look):
        self.tree, self.owner, self.theirs = tree, others.owner, set(others.folders)
        self.old = len(tree.nodes)
        self.going = PlainWalk(place, path, look)

    def do(self, deed):
        """Do a deed, and tell whether it could be done."""
        after = plain_may(self.tree, self.owner, self.theirs, deed)
        if after is None:
            return False
        self.theirs |= set(range(len(self.tree.nodes), len(after.nodes)))
        self.theirs = {number for number in self.theirs if isinstance(after.nodes[number], Folder)}
        self.tree = after
        return True

    def look(self):
        self.going.do(self.tree)

    def result(self):
        """The result as a word or a number, as told of plain_reach makes it; None if there is none yet."""
        if self.going.result is None:
            return None
        word, told = self.going.result
        if word == "came" and told >= self.old:
            node = self.tree.nodes[told]
            return "new " + ("file" if isinstance(node, File) else "link" if isinstance(node, Link) else "folder")
        return told

    def played(self, parts):
        """The result to which the parts lead, or None if they are no certificate for anything."""
        for part in parts:
            if part == "look":
                if self.going.result is not None:
                    return None
                self.look()
            elif not self.do(part):
                return None
        return self.result() if not parts or parts[-1] == "look" else None


def most_deeds(parts):
    """The greatest number of deeds one after the other."""
    most = many = 0
    for part in parts:
        many = 0 if part == "look" else many + 1
        most = max(most, many)
    return most
