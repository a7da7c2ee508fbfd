"""Views: trees that are made ready for many looks, and what goes on by looks.

What goes on (a walk, a listing, a climb) is an object whose result is None as
long as it is not at its end, and whose looked(view) returns it after one look.
"""

from namewalk.paths import read_path
from namewalk.trees import ROOT, Folder, Gone, Link


class View:
    """A tree with what looks ask for again and again.

    names: for each node its entries by their names; homes: for each folder but
    the root the pair (folder, name) of its entry; paths: for each link its path.
    """

    def __init__(self, tree):
        self.nodes = tree.nodes
        self.names = [dict(node.entries) if isinstance(node, Folder) else {} for node in tree.nodes]
        self.homes = folder_homes(tree.nodes)
        self.paths = {number: read_path(node.text) for number, node in enumerate(tree.nodes) if isinstance(node, Link)}

    def led(self, at, step):
        """The node to which a step leads from a folder or gone folder, or None."""
        if step == "..":
            return self.up(at)
        return self.names[at].get(step)

    def up(self, at):
        """The folder in which a folder stands, or a gone folder stood last; for the root the root."""
        if at == ROOT:
            return ROOT
        if isinstance(self.nodes[at], Gone):
            return self.nodes[at].above
        return self.homes[at][0]


def folder_homes(nodes):
    found = {}
    for number, folder in enumerate(nodes):
        if isinstance(folder, Folder):
            for name, inner in folder.entries:
                if isinstance(nodes[inner], Folder):
                    found[inner] = (number, name)
    return found


def ended_in(view, going):
    """What comes of something that goes on if all its looks see the same tree."""
    while going.result is None:
        going = going.looked(view)
    return going.result
