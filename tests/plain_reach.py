"""Point [18] in two other ways, which the tests compare with: state by state, and by trying deeds."""

from namewalk.deeds import MakeFile, MakeFolder, MakeLink, Move, Put, Take, done
from namewalk.others import Others, may
from namewalk.paths import read_path
from namewalk.trees import File, Folder, Link, above, entries_of
from namewalk.walking import Came, Refused
from tests.plain import PlainWalk

NEW = {"folder": "new folder", "file": "new file", "link": "new link"}
WORDS = ["none", "owner", "file", "link", "links"]


def told(result):
    """A result of reach as a word or a number."""
    if isinstance(result, Came):
        return result.node
    return result.why if isinstance(result, Refused) else "new " + result.kind


class PlainReach:
    """The states of walks one by one.

    Among the steps left, "+" stands for one or more steps of a new link's text.
    A state is (at, steps left, wants, links); at is a number or "new folder".
    """

    def __init__(self, tree, others, look):
        self.tree, self.others, self.look = tree, others, look
        self.theirs = sorted(set(others.folders))
        self.loose = [number for number, node in enumerate(tree.nodes)
                      if (number in self.theirs or not isinstance(node, Folder))
                      and [1 for at, _ in entries_of(tree, number) if at in self.theirs]]
        self.stood, self.results = set(), set()

    def head(self, at):
        while at not in self.loose and at not in ("new folder", 0):
            at = above(self.tree, at)
        return at

    def leads(self, at, step):
        known = at != "new folder"
        node = self.tree.nodes[at] if known else None
        if step == "..":
            if at in self.loose or not known:
                return [one for one in self.theirs if self.head(one) != at] + ["new folder"]
            return [above(self.tree, at)]
        if known and at not in self.theirs:
            return [dict(node.entries).get(step) if isinstance(node, Folder) else None]
        found = [one for one in self.loose if one != self.head(at)]
        found += [inner for _, inner in node.entries if isinstance(self.tree.nodes[inner], Folder)] if known else []
        found += [number for number, one in enumerate(self.tree.nodes)
                  if isinstance(one, (File, Link)) and one.owner == self.others.owner]
        return found + list(NEW.values()) + [None]

    def kind(self, number):
        if number in NEW.values():
            return number[4:]
        node = self.tree.nodes[number]
        return "file" if isinstance(node, File) else "link" if isinstance(node, Link) else "folder"

    def owner(self, number):
        return self.others.owner if number in NEW.values() else self.tree.nodes[number].owner

    def begin(self, place, path):
        return self.go_on(0 if path.absolute else place, path.steps, path.folder, 0)

    def go_on(self, at, steps, wants, links):
        waiting = [(at, tuple(steps), wants, links)]
        seen = set(waiting)
        while waiting:
            for state in self.after(*waiting.pop()):
                if state not in seen:
                    seen.add(state)
                    waiting.append(state)
        return self

    def after(self, at, steps, wants, links):
        if not steps:
            self.results.add(at)
            return []
        self.stood.add(at)
        states = []
        if steps[0] != "+":
            for found in self.leads(at, steps[0]):
                states += self.come(at, found, steps[1:], wants, links)
            return states
        names = [name for name, _ in self.tree.nodes[at].entries] if self.is_folder(at) else []
        for step in ["..", "no-name"] + names:
            for found in self.leads(at, step):
                states += self.come(at, found, steps, wants, links)
                # A text that ends with `..` wants a folder.
                if step != ".." or wants or len(steps) > 1:
                    states += self.come(at, found, steps[1:], wants, links)
        return states

    def is_folder(self, at):
        return at != "new folder" and isinstance(self.tree.nodes[at], Folder)

    def come(self, at, found, left, wants, links):
        """The states after a look that has found a node; results and refusals are noted."""
        if found is None:
            return self.refuse("none")
        if self.look.owners is not None and self.owner(found) not in self.look.owners:
            return self.refuse("owner")
        kind, goes_on = self.kind(found), bool(left) or wants
        if kind == "folder":
            return [(found, left, wants, links)]
        if kind == "file" and goes_on:
            return self.refuse("file")
        if kind == "link" and self.look.follow and (goes_on or self.look.last):
            return self.refuse("links") if links == 8 else self.follow(at, found, left, wants, links + 1)
        if kind == "link" and goes_on:
            return self.refuse("link")
        self.results.add(found)
        return []

    def follow(self, at, found, left, wants, links):
        if found != "new link":
            path = read_path(self.tree.nodes[found].text)
            return [(0 if path.absolute else at, path.steps + left, wants or (not left and path.folder), links)]
        states = []
        for begin in (at, 0):
            states += [(begin, left, wants or not left, links), (begin, ("+",) + left, wants, links)]
            states += [] if left else [(begin, ("+",), True, links)]
        return states

    def refuse(self, why):
        self.results.add(why)
        return []

    def ordered(self, old=None):
        """The results in their order; nodes from the number old on are new ones."""
        old = len(self.tree.nodes) if old is None else old
        numbers = sorted(one for one in self.results if isinstance(one, int))
        found = self.results | {"new " + self.kind(number) for number in numbers if number >= old}
        return [one for one in numbers if one < old] + [one for one in list(NEW.values()) + WORDS if one in found]


class Tried:
    """All trees that others can make of a tree with a few names and at most so many new nodes."""

    def __init__(self, tree, others, names, new, texts=()):
        self.names, self.texts, self.most = names, texts, len(tree.nodes) + new
        self.old, self.owner = len(tree.nodes), others.owner
        self.trees, self.after, numbers = [tree], [], {}
        self.theirs = [tuple(sorted(set(others.folders)))]
        numbers[self.key(tree)] = 0
        for number, present in enumerate(self.trees):
            self.after.append([])
            for deed in self.deeds(present, self.theirs[number]):
                if may(present, Others(self.owner, self.theirs[number]), deed):
                    later = done(present, deed)
                    key = self.key(later)
                    if key not in numbers:
                        numbers[key] = len(self.trees)
                        self.trees.append(later)
                        self.theirs.append(self.theirs_in(later, number))
                    self.after[number].append(numbers[key])

    def theirs_in(self, later, number):
        made = range(len(self.trees[number].nodes), len(later.nodes))
        return tuple(at for at in self.theirs[number] + tuple(made) if isinstance(later.nodes[at], Folder))

    def key(self, tree):
        return tuple((node.__class__.__name__,) + tuple(vars(node).values()) for node in tree.nodes)

    def deeds(self, tree, theirs):
        new = len(tree.nodes) < self.most
        for at in theirs:
            for name in self.names:
                if new:
                    yield MakeFolder(at, name, self.owner)
                    yield MakeFile(at, name, self.owner)
                    for text in self.texts or ("x",):
                        yield MakeLink(at, name, self.owner, text)
                for node, one in enumerate(tree.nodes):
                    if isinstance(one, (File, Link)):
                        yield Put(at, name, node)
                yield Take(at, name)
                for goal in theirs:
                    for other in self.names:
                        yield Move(at, name, goal, other)

    def walked(self, place, path, look):
        """The results of all walks, and the folders at which they stand before a look."""
        results, stood = set(), set()
        begin = PlainWalk(place, path, look)
        waiting = [(0, (begin.at, tuple(begin.left), begin.wants, 0))]
        seen = set(waiting)
        if begin.result is not None:
            return {begin.result[1]}, stood
        while waiting:
            number, state = waiting.pop()
            going = self.looked(self.trees[number], state, look)
            stood.add(state[0])
            found = [(later, state) for later in self.after[number]]
            if going.result is None:
                found.append((number, (going.at, tuple(going.left), going.wants, going.links)))
            else:
                results.add(self.told(number, going.result))
            for pair in found:
                if pair not in seen:
                    seen.add(pair)
                    waiting.append(pair)
        return results, stood

    def looked(self, tree, state, look):
        going = PlainWalk(0, read_path("a"), look)
        going.at, going.left, going.wants, going.links = state[0], list(state[1]), state[2], state[3]
        going.do(tree)
        return going

    def told(self, number, result):
        word, told_by = result
        if word == "came" and told_by >= self.old:
            node = self.trees[number].nodes[told_by]
            return "new file" if isinstance(node, File) else "new link" if isinstance(node, Link) else "new folder"
        return told_by
