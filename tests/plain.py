"""Point [7] and [11] word by word, without any of the package's modules for walks: what the tests compare with."""

import itertools

from namewalk.paths import read_path
from namewalk.trees import File, Folder, Gone, Link


def plain_found(tree, at, step):
    node = tree.nodes[at]
    if step != "..":
        return dict(node.entries).get(step) if isinstance(node, Folder) else None
    if isinstance(node, Gone):
        return node.above
    homes = [number for number, other in enumerate(tree.nodes)
             if isinstance(other, Folder) and at in [inner for _, inner in other.entries]]
    return homes[0] if at != 0 else 0


class PlainWalk:
    """A walk that is led look by look; what it found at each look is kept, and where it stood."""

    def __init__(self, place, path, look):
        self.at = 0 if path.absolute else place
        self.left = list(path.steps)
        self.wants = path.folder
        self.look = look
        self.links = 0
        self.found = []
        self.stood = [self.at]
        self.result = None
        self.end()

    def end(self):
        if self.result is None and not self.left:
            self.result = ("came", self.at)

    def do(self, tree):
        assert self.result is None
        step = self.left.pop(0)
        node = plain_found(tree, self.at, step)
        self.found.append((self.at, step, node))
        why = self.refusal(tree, node)
        if why is not None:
            self.result = ("refused", why)
            return
        if isinstance(tree.nodes[node], Link) and self.follows():
            self.links += 1
            path = read_path(tree.nodes[node].text)
            if not self.left and path.folder:
                self.wants = True
            self.left = list(path.steps) + self.left
            self.at = 0 if path.absolute else self.at
        else:
            self.at = node
        self.stood.append(self.at)
        self.end()

    def follows(self):
        return self.look.follow and (bool(self.left) or self.look.last or self.wants)

    def refusal(self, tree, number):
        if number is None:
            return "none"
        node = tree.nodes[number]
        if self.look.owners is not None and node.owner not in self.look.owners:
            return "owner"
        if isinstance(node, File) and (self.left or self.wants):
            return "file"
        if isinstance(node, Link):
            if self.follows():
                return "links" if self.links == 8 else None
            if self.left or self.wants:
                return "link"
        return None


def plain(result):
    """A result of the package as the tuples that are used here."""
    if result.__class__.__name__ == "Came":
        return ("came", result.node)
    assert result.__class__.__name__ == "Refused"
    return ("refused", result.why)


def plain_walk(tree, place, path, look):
    going = PlainWalk(place, path, look)
    while going.result is None:
        going.do(tree)
    return going


def plain_led(row, place, path, look, weaving):
    """The walk by a weaving through the trees of a row, or None if the weaving does not fit."""
    going = PlainWalk(place, path, look)
    for number in weaving:
        if going.result is not None:
            return None
        going.do(row[number])
    return None if going.result is None else going


def tuples(many, most):
    """All tuples of numbers from 0 to most that do not descend, of up to as many numbers."""
    for length in range(many + 1):
        yield from itertools.combinations_with_replacement(range(most + 1), length)


def plain_results(row, place, path, look, many):
    """For each result all weavings of up to many looks that lead to it."""
    found = {}
    for weaving in tuples(many, len(row) - 1):
        going = plain_led(row, place, path, look, weaving)
        if going is not None:
            found.setdefault(going.result, []).append(weaving)
    return found
