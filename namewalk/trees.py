"""Trees of folders, files and links."""

from namewalk.errors import NoNode, NoTree
from namewalk.kinds import is_name, is_number, is_owner
from namewalk.paths import bad_place

ROOT = 0


class Folder:
    """A folder: its owner and its entries, pairs (name, node) by ascending names."""

    def __init__(self, owner, entries):
        self.owner = owner
        self.entries = by_names([tuple(entry) for entry in entries])

    def __eq__(self, other):
        return isinstance(other, Folder) and self.owner == other.owner and self.entries == other.entries


class File:
    """A file: its owner."""

    def __init__(self, owner):
        self.owner = owner

    def __eq__(self, other):
        return isinstance(other, File) and self.owner == other.owner


class Link:
    """A link: its owner and the text of the path to which it leads."""

    def __init__(self, owner, text):
        self.owner = owner
        self.text = text

    def __eq__(self, other):
        return isinstance(other, Link) and self.owner == other.owner and self.text == other.text


class Gone:
    """A folder that was taken away: its owner and the folder in which it stood last."""

    def __init__(self, owner, above):
        self.owner = owner
        self.above = above

    def __eq__(self, other):
        return isinstance(other, Gone) and self.owner == other.owner and self.above == other.above


class Tree:
    """A tree: its nodes, of which the first one is the root."""

    def __init__(self, nodes):
        self.nodes = tuple(nodes)
        check_nodes(self.nodes)
        check_folders(self.nodes)

    def __eq__(self, other):
        return isinstance(other, Tree) and self.nodes == other.nodes


def by_names(entries):
    """The entries as a tuple, sorted if all names can be compared."""
    if not all([isinstance(name, str) for name, _ in entries]):
        return tuple(entries)
    return tuple(sorted(entries, key=lambda entry: entry[0]))


def check_nodes(nodes):
    """Raise NoTree for the first node that is wrong in itself or leads to a wrong one."""
    if len(nodes) == 0 or not isinstance(nodes[ROOT], Folder):
        raise NoTree("root", ROOT)
    for number in range(len(nodes)):
        why = wrong_node(nodes, number)
        if why is not None:
            raise NoTree(why, number)


def wrong_node(nodes, number):
    """The first word of NoTree that applies to the node, or None."""
    node = nodes[number]
    # What is no node at all has no owner.
    if not isinstance(node, (Folder, File, Link, Gone)) or not is_owner(node.owner):
        return "owner"
    if isinstance(node, Folder):
        return wrong_entries(nodes, node.entries)
    if isinstance(node, Link) and bad_place(node.text) is not None:
        return "text"
    if isinstance(node, Gone) and not stood_in(nodes, number, node.above):
        return "above"
    return None


def wrong_entries(nodes, entries):
    """The first word of NoTree that applies to a folder's entries, or None."""
    names = [name for name, _ in entries]
    if not all([is_name(name) for name in names]):
        return "name"
    if len(set(names)) < len(names):
        return "twice"
    if not all([may_be_entered(nodes, node) for _, node in entries]):
        return "entry"
    return None


def may_be_entered(nodes, number):
    """Whether an entry may lead to this number."""
    return is_at(nodes, number) and number != ROOT and isinstance(nodes[number], (Folder, File, Link))


def stood_in(nodes, number, last):
    """Whether the gone folder with this number can have stood last in the node with the number last."""
    return is_at(nodes, last) and last != number and isinstance(nodes[last], (Folder, Gone))


def is_at(nodes, number):
    """Whether number is the number of one of the nodes."""
    return is_number(number) and 0 <= number < len(nodes)


def check_folders(nodes):
    """Raise NoTree unless each folder but the root stands in one entry and is found from the root."""
    folders = [number for number, node in enumerate(nodes) if number != ROOT and isinstance(node, Folder)]
    entered = entered_times(nodes)
    for number in folders:
        if entered[number] != 1:
            raise NoTree("entries", number)
    found = found_folders(nodes)
    for number in folders:
        if number not in found:
            raise NoTree("loop", number)


def entered_times(nodes):
    """For each node, how many entries lead to it."""
    times = [0] * len(nodes)
    for node in nodes:
        if isinstance(node, Folder):
            for _, number in node.entries:
                times[number] += 1
    return times


def found_folders(nodes):
    """The folders that are found from the root by entries, each with True."""
    found = {}
    waiting = [ROOT]
    # This comes to an end since no folder stands in two entries, and the root in none.
    while waiting:
        number = waiting.pop()
        found[number] = True
        waiting.extend([inner for _, inner in nodes[number].entries if isinstance(nodes[inner], Folder)])
    return found


def check_node(tree, node):
    if not is_at(tree.nodes, node):
        raise NoNode(node)


def check_place(tree, place):
    """Raise NoNode unless a walk can stand at the place."""
    check_node(tree, place)
    if not isinstance(tree.nodes[place], (Folder, Gone)):
        raise NoNode(place)


def above(tree, node):
    """The folder in which a folder stands or stood last, or None for files and links."""
    check_node(tree, node)
    present = tree.nodes[node]
    if isinstance(present, Gone):
        return present.above
    if not isinstance(present, Folder):
        return None
    if node == ROOT:
        return ROOT
    return entries_of(tree, node)[0][0]


def entries_of(tree, node):
    """All pairs (folder, name) of entries that lead to the node, ascending."""
    check_node(tree, node)
    pairs = []
    for number, folder in enumerate(tree.nodes):
        if isinstance(folder, Folder):
            pairs.extend([(number, name) for name, inner in folder.entries if inner == node])
    return pairs


def alike(one, other):
    """Whether the trees differ only in the numbers of the nodes found from the root."""
    twins = {ROOT: ROOT}
    taken = {ROOT}
    waiting = [ROOT]
    while waiting:
        number = waiting.pop()
        node, twin = one.nodes[number], other.nodes[twins[number]]
        if not same_but_numbers(node, twin):
            return False
        for inner, outer in zip(numbers_below(node), numbers_below(twin)):
            if inner not in twins and outer not in taken:
                twins[inner] = outer
                taken.add(outer)
                waiting.append(inner)
            elif twins.get(inner) != outer:
                return False
    return True


def same_but_numbers(node, twin):
    """Whether two nodes are equal but for the numbers to which their entries lead."""
    if isinstance(node, Folder) and isinstance(twin, Folder):
        return node.owner == twin.owner and names_in(node) == names_in(twin)
    return node == twin


def names_in(folder):
    return [name for name, _ in folder.entries]


def numbers_below(node):
    """The numbers to which the entries of a node lead; only folders have entries."""
    if isinstance(node, Folder):
        return [number for _, number in node.entries]
    return []
