"""Deeds: what changes a tree at one moment."""

from namewalk.errors import NoDeed, NoRow
from namewalk.kinds import is_name, is_owner
from namewalk.paths import bad_place
from namewalk.trees import ROOT, File, Folder, Gone, Link, Tree, above, is_at


class MakeFolder:
    """A new folder without entries, in an entry of a folder."""

    def __init__(self, folder, name, owner):
        self.folder = folder
        self.name = name
        self.owner = owner

    def __eq__(self, other):
        return (isinstance(other, MakeFolder) and self.folder == other.folder and self.name == other.name
                and self.owner == other.owner)


class MakeFile:
    """A new file, in an entry of a folder."""

    def __init__(self, folder, name, owner):
        self.folder = folder
        self.name = name
        self.owner = owner

    def __eq__(self, other):
        return (isinstance(other, MakeFile) and self.folder == other.folder and self.name == other.name
                and self.owner == other.owner)


class MakeLink:
    """A new link with a text, in an entry of a folder."""

    def __init__(self, folder, name, owner, text):
        self.folder = folder
        self.name = name
        self.owner = owner
        self.text = text

    def __eq__(self, other):
        return (isinstance(other, MakeLink) and self.folder == other.folder and self.name == other.name
                and self.owner == other.owner and self.text == other.text)


class Put:
    """Another entry for a file or link."""

    def __init__(self, folder, name, node):
        self.folder = folder
        self.name = name
        self.node = node

    def __eq__(self, other):
        return (isinstance(other, Put) and self.folder == other.folder and self.name == other.name
                and self.node == other.node)


class Take:
    """An entry away; a folder that stood in it is gone."""

    def __init__(self, folder, name):
        self.folder = folder
        self.name = name

    def __eq__(self, other):
        return isinstance(other, Take) and self.folder == other.folder and self.name == other.name


class Move:
    """The entry name of folder becomes the entry other of goal."""

    def __init__(self, folder, name, goal, other):
        self.folder = folder
        self.name = name
        self.goal = goal
        self.other = other

    def __eq__(self, other):
        return (isinstance(other, Move) and self.folder == other.folder and self.name == other.name
                and self.goal == other.goal and self.other == other.other)


def is_making(deed):
    return isinstance(deed, (MakeFolder, MakeFile, MakeLink))


def folders_of(deed):
    """The numbers of the folders that a deed changes."""
    if isinstance(deed, Move):
        return [deed.folder, deed.goal]
    return [deed.folder]


def names_of(deed):
    if isinstance(deed, Move):
        return [deed.name, deed.other]
    return [deed.name]


def is_folder(tree, number):
    return is_at(tree.nodes, number) and isinstance(tree.nodes[number], Folder)


def entered(tree, folder, name):
    """The node to which the entry of a folder leads, or None if there is no such entry."""
    return dict(tree.nodes[folder].entries).get(name)


def why_not(tree, deed):
    """The word of NoDeed that applies to the deed first, or None if it can be done."""
    if not all([is_folder(tree, number) for number in folders_of(deed)]):
        return "folder"
    if not all([is_name(name) for name in names_of(deed)]):
        return "name"
    if is_making(deed) and not is_owner(deed.owner):
        return "owner"
    if isinstance(deed, MakeLink) and bad_place(deed.text) is not None:
        return "text"
    if lacks_node(tree, deed):
        return "none"
    if finds_name_taken(tree, deed):
        return "taken"
    if takes_full_folder(tree, deed):
        return "full"
    if moves_below_itself(tree, deed):
        return "below"
    return None


def lacks_node(tree, deed):
    """Whether what is to be put, taken or moved is not there."""
    if is_making(deed):
        return False
    if isinstance(deed, Put):
        return not (is_at(tree.nodes, deed.node) and isinstance(tree.nodes[deed.node], (File, Link)))
    return entered(tree, deed.folder, deed.name) is None


def finds_name_taken(tree, deed):
    """Whether the entry that the deed would make is there already."""
    if isinstance(deed, Take):
        return False
    # A move makes an entry of its second folder, all others of their only one.
    return entered(tree, folders_of(deed)[-1], names_of(deed)[-1]) is not None


def takes_full_folder(tree, deed):
    if not isinstance(deed, Take):
        return False
    node = tree.nodes[entered(tree, deed.folder, deed.name)]
    return isinstance(node, Folder) and len(node.entries) > 0


def moves_below_itself(tree, deed):
    if not isinstance(deed, Move):
        return False
    moved = entered(tree, deed.folder, deed.name)
    number = deed.goal
    while number not in (moved, ROOT):
        number = above(tree, number)
    # The root is in no entry, so it is never what is moved.
    return number == moved


def done(tree, deed):
    """The tree after the deed; the given one stays as it is."""
    why = why_not(tree, deed)
    if why is not None:
        raise NoDeed(why)
    return changed(tree, deed)


def changed(tree, deed):
    """The tree after a deed that can be done."""
    nodes = list(tree.nodes)
    if isinstance(deed, Take):
        number = leave(nodes, deed.folder, deed.name)
        if isinstance(nodes[number], Folder):
            nodes[number] = Gone(nodes[number].owner, deed.folder)
    elif isinstance(deed, Move):
        number = leave(nodes, deed.folder, deed.name)
        enter(nodes, deed.goal, deed.other, number)
    elif isinstance(deed, Put):
        enter(nodes, deed.folder, deed.name, deed.node)
    else:
        nodes.append(made(deed))
        enter(nodes, deed.folder, deed.name, len(nodes) - 1)
    return Tree(nodes)


def made(deed):
    """The new node of a deed that makes one."""
    if isinstance(deed, MakeFolder):
        return Folder(deed.owner, [])
    if isinstance(deed, MakeFile):
        return File(deed.owner)
    return Link(deed.owner, deed.text)


def enter(nodes, folder, name, number):
    """Replace the folder among the nodes by one with another entry."""
    present = nodes[folder]
    nodes[folder] = Folder(present.owner, present.entries + ((name, number),))


def leave(nodes, folder, name):
    """Replace the folder among the nodes by one without the entry, and return the number of the entry's node."""
    present = nodes[folder]
    nodes[folder] = Folder(present.owner, [entry for entry in present.entries if entry[0] != name])
    return dict(present.entries)[name]


def trees(tree, deeds):
    """The trees after the first 0, 1, 2 and so on deeds of a row."""
    row = [tree]
    for index, deed in enumerate(deeds):
        why = why_not(row[-1], deed)
        if why is not None:
            raise NoRow(index, why)
        row.append(changed(row[-1], deed))
    return row
