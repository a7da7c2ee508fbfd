"""Grounds: to which nodes a step can lead while others do whatever they may."""

from namewalk.others import heads, loose
from namewalk.trees import File, Link
from namewalk.views import View

# Stands among the nodes to which a step can lead for none at all.
NONE = -1

FOLDER = "folder"
FILE = "file"
LINK = "link"

# Stands for every name that a folder has in no entry, and at a folder of theirs for every name.
ANY_NAME = ""


class Ground:
    """A tree, and all that others can make of it.

    The number behind those of the nodes stands for every new folder, the next
    one for every new file, and the next one for every new link.
    """

    def __init__(self, tree, others):
        self.view = View(tree)
        self.new_folder = len(tree.nodes)
        self.new_link = self.new_folder + 2
        self.kinds = [kind_of(node) for node in tree.nodes] + [FOLDER, FILE, LINK]
        self.owners = [node.owner for node in tree.nodes] + [others.owner] * 3
        self.theirs = others.folders + (self.new_folder,)
        self.free = loose(tree, others) + [self.new_folder]
        self.heads = heads(tree, others)
        self.heads[self.new_folder] = self.new_folder
        self.own = [number for number, kind in enumerate(self.kinds)
                    if kind != FOLDER and self.owners[number] == others.owner]

    def step_key(self, at, step):
        """The same for all steps that can lead from a folder to the same nodes."""
        if step == ".." or (at not in self.theirs and step in self.view.names[at]):
            return step
        return ANY_NAME

    def steps_from(self, at):
        """A step of each kind that there is at a folder."""
        if at in self.theirs:
            return ["..", ANY_NAME]
        return ["..", ANY_NAME] + list(self.view.names[at])

    def leads(self, at, step):
        """The nodes to which a step can lead from a folder or gone folder."""
        if step == "..":
            return self.leads_up(at)
        if at in self.theirs:
            return self.leads_by_names(at)
        return [self.view.names[at].get(step, NONE)]

    def leads_up(self, at):
        if at not in self.free:
            return [self.view.up(at)]
        # A loose folder is the head of its piece, and never stands in it.
        return [folder for folder in self.theirs if self.heads[folder] != at] + [self.new_folder]

    def leads_by_names(self, at):
        """The nodes to which each name can lead at a folder of theirs."""
        found = [number for number in self.free if number != self.heads[at]] + self.own
        if at != self.new_folder:
            # What stands there is loose, or a folder that is not theirs and stays there.
            found.extend(list(self.view.names[at].values()))
        return found + [self.new_folder, NONE]


def kind_of(node):
    """The kind of a node; a gone folder counts as a folder."""
    if isinstance(node, File):
        return FILE
    if isinstance(node, Link):
        return LINK
    return FOLDER
