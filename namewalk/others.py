"""Others: users who may change some folders, and what they can bring where."""

from namewalk.deeds import Move, Put, entered, folders_of, is_folder, is_making, why_not
from namewalk.errors import NoNode, NoOwner
from namewalk.kinds import is_owner
from namewalk.trees import ROOT, entries_of, numbers_below
from namewalk.views import View


class Others:
    """Users with an owner for what they make, and with the folders that they may change."""

    def __init__(self, owner, folders):
        self.owner = owner
        self.folders = tuple(folders)
        if not is_owner(owner):
            raise NoOwner(owner)

    def __eq__(self, other):
        return isinstance(other, Others) and self.owner == other.owner and self.folders == other.folders


def check_others(tree, others):
    """Raise NoNode for the first of their folders that is no folder of the tree."""
    for number in others.folders:
        if not is_folder(tree, number):
            raise NoNode(number)


def may(tree, others, deed):
    """Whether the others may do the deed."""
    check_others(tree, others)
    if why_not(tree, deed) is not None:
        return False
    if not all([number in others.folders for number in folders_of(deed)]):
        return False
    if is_making(deed):
        return deed.owner == others.owner
    if isinstance(deed, Put):
        return tree.nodes[deed.node].owner == others.owner
    return leaves_its_folder_rightly(tree, others, deed)


def leaves_its_folder_rightly(tree, others, deed):
    """Whether what is taken or moved stays in its folder, is theirs, or is no folder."""
    if isinstance(deed, Move) and deed.goal == deed.folder:
        return True
    node = entered(tree, deed.folder, deed.name)
    return node in others.folders or not is_folder(tree, node)


def loose(tree, others):
    """The nodes that they can bring from folder to folder."""
    check_others(tree, others)
    entered_in_theirs = []
    for folder in others.folders:
        entered_in_theirs.extend(numbers_below(tree.nodes[folder]))
    free = {node for node in entered_in_theirs if node in others.folders or not is_folder(tree, node)}
    return sorted(free)


def heads(tree, others):
    """For each folder of the tree the head of its piece."""
    free = loose(tree, others)
    view = View(tree)
    found = {}
    for number in range(len(tree.nodes)):
        if is_folder(tree, number):
            head = number
            while head != ROOT and head not in free:
                head = view.up(head)
            found[number] = head
    return found


def pieces(tree, others):
    """The folders of each piece, by ascending heads."""
    by_head = {}
    for number, head in heads(tree, others).items():
        by_head.setdefault(head, []).append(number)
    return [by_head[head] for head in sorted(by_head)]


def arrangements(tree, others):
    """The number of ways in which the loose nodes can stand in their folders."""
    by_folder = heads(tree, others)
    # Folders always stand in just one entry.
    many = len([node for node in loose(tree, others) if len(entries_of(tree, node)) == 1])
    theirs = [number for number in by_folder if number in others.folders]
    fixed = len([number for number in theirs if by_folder[number] == ROOT])
    if many == 0:
        return 1
    ways = fixed
    for _ in range(many - 1):
        ways = ways * len(theirs)
    return ways
