"""Leading: the deeds by which others lead the looks of a walk where a plan tells.

Whatever is loose stays in their folders, and nothing is ever taken away, so
that each later look can be led as if nothing had been done before.
"""

from namewalk.deeds import MakeFile, MakeFolder, MakeLink, Move, Put, changed, entered, is_folder
from namewalk.grounds import FILE, FOLDER, NONE
from namewalk.kinds import unused_name
from namewalk.others import heads
from namewalk.paths import path_text
from namewalk.trees import ROOT, above, entries_of, names_in
from namewalk.views import View


class Leader:
    """The others, who do deeds in a tree; parts tells what they and the walk have done."""

    def __init__(self, tree, others):
        self.tree = tree
        self.owner = others.owner
        self.theirs = list(others.folders)
        self.old = len(tree.nodes)
        # The pieces stay whole, whatever is done.
        self.heads = heads(tree, others)
        self.parts = []

    def leads(self, going, plan, kinds):
        """Do what the plan tells for all looks of a walk; kinds tells the kinds of the nodes in it."""
        for number, path in plan:
            at, step = going.at, going.steps[0]
            if step == "..":
                self.leads_up(at, number)
            elif at in self.theirs:
                self.frees(at, step, number)
                self.brings(at, step, number, kinds[number], path)
            self.parts.append("look")
            going = going.looked(View(self.tree))

    def does(self, deed):
        self.tree = changed(self.tree, deed)
        self.parts.append(deed)

    def unused(self, folder):
        """A name that the folder does not have."""
        return unused_name(names_in(self.tree.nodes[folder]))

    def home(self):
        """The first of their folders that no deed can bring anywhere."""
        return [folder for folder in self.theirs if self.heads.get(folder) == ROOT][0]

    def leads_up(self, at, number):
        """Let a folder stand where `..` has to lead from it; one that is not loose stands there."""
        goal = number
        if number >= self.old:
            goal = self.makes_folder(self.home(), self.unused(self.home()))
        if above(self.tree, at) != goal:
            self.moves(at, goal, self.unused(goal))

    def frees(self, at, step, number):
        """Give another name to what stands at the name, unless it has to stand there."""
        present = entered(self.tree, at, step)
        if present is not None and (present != number or number >= self.old):
            self.does(Move(at, step, at, self.unused(at)))

    def brings(self, at, step, number, kind, path):
        """Let the node stand at the name, which is free if it does not stand there yet."""
        if number == NONE or entered(self.tree, at, step) is not None:
            return
        if number >= self.old:
            self.makes(at, step, kind, path)
        elif is_folder(self.tree, number):
            self.moves(number, at, step)
        elif self.tree.nodes[number].owner == self.owner:
            self.does(Put(at, step, number))
        else:
            folder, name = [entry for entry in entries_of(self.tree, number) if entry[0] in self.theirs][0]
            self.does(Move(folder, name, at, step))

    def makes(self, at, step, kind, path):
        if kind == FOLDER:
            self.makes_folder(at, step)
        elif kind == FILE:
            self.does(MakeFile(at, step, self.owner))
        else:
            # A link that is not followed may have any text.
            self.does(MakeLink(at, step, self.owner, "/" if path is None else path_text(path)))

    def makes_folder(self, at, name):
        """Make a folder, and return its number."""
        number = len(self.tree.nodes)
        self.does(MakeFolder(at, name, self.owner))
        self.theirs.append(number)
        return number

    def moves(self, folder, goal, name):
        """Bring a folder to another one, which must not stand below it then."""
        if self.is_below(goal, folder):
            head = self.heads.get(goal, goal)
            self.enters(head, self.home(), self.unused(self.home()))
        self.enters(folder, goal, name)

    def enters(self, folder, goal, name):
        home, old_name = entries_of(self.tree, folder)[0]
        self.does(Move(home, old_name, goal, name))

    def is_below(self, at, folder):
        """Whether a folder stands in another one or below it."""
        while at not in (folder, ROOT):
            at = above(self.tree, at)
        return at == folder
