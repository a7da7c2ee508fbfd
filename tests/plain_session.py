"""Point [23] word by word: a session that keeps all its states."""

import copy

from namewalk.others import Others
from namewalk.trees import Folder, Gone
from tests.plain import PlainWalk
from tests.plain_play import plain_may
from tests.plain_reach import PlainReach


class Error(Exception):
    """The error with this name is what has to be raised."""


class PlainSession:
    """The results of step and history are the tuples of tests.plain, those of can are the words of plain_reach."""

    def __init__(self, tree, others):
        self.owner, self.old = others.owner, len(tree.nodes)
        # Each state has the tree, the folders that are theirs, the walk or None, and the results.
        self.states = [(tree, tuple(others.folders), None, ())]

    def walk(self):
        if self.states[-1][2] is None:
            raise Error("Idle")
        return copy.deepcopy(self.states[-1][2])

    def begin(self, place, path, look):
        tree, theirs, going, ended = self.states[-1]
        if going is not None:
            raise Error("Busy")
        if place.__class__ != int or not 0 <= place < len(tree.nodes) or \
                not isinstance(tree.nodes[place], (Folder, Gone)):
            raise Error("NoNode")
        self.states.append((tree, theirs, PlainWalk(place, path, look), ended))

    def step(self):
        tree, theirs, _, ended = self.states[-1]
        going = self.walk()
        if going.result is None:
            going.do(tree)
        if going.result is None:
            self.states.append((tree, theirs, going, ended))
        else:
            self.states.append((tree, theirs, None, ended + (going.result,)))
        return going.result

    def do(self, deed):
        tree, theirs, going, ended = self.states[-1]
        after = plain_may(tree, self.owner, theirs, deed)
        if after is None:
            raise Error("Forbidden")
        numbers = theirs + tuple(range(len(tree.nodes), len(after.nodes)))
        theirs = tuple(number for number in numbers if isinstance(after.nodes[number], Folder))
        self.states.append((after, theirs, going, ended))

    def now(self):
        return self.states[-1][0]

    def can(self):
        going, (tree, theirs, _, _) = self.walk(), self.states[-1]
        known = PlainReach(tree, Others(self.owner, theirs), going.look)
        return known.go_on(going.at, going.left, going.wants, going.links).ordered(self.old)

    def history(self):
        return list(self.states[-1][3])

    def back(self):
        if len(self.states) == 1:
            raise Error("NoBack")
        self.states.pop()

    def many(self):
        return len(self.states) - 1
