"""Points [21] and [22] word by word: processes as rows of moments, played by each weaving from its begin."""

from namewalk.deeds import MakeFile, MakeFolder, Move, Take, done
from namewalk.errors import NoDeed
from namewalk.paths import Path
from tests.plain import PlainWalk


class World:
    """The tree, who made its new nodes, the texts of the results, and who had each moment."""

    def __init__(self, tree, processes):
        self.tree, self.old, self.makers, self.log = tree, len(tree.nodes), [], []
        self.texts = [[] for _ in processes]
        self.actors = [self.acting(number, process) for number, process in enumerate(processes)]
        self.alive = [number for number in range(len(processes)) if self.goes_on(number)]

    def goes_on(self, number):
        """Do the next moment of a process, at first none; tell whether there is another one."""
        return next(self.actors[number], "end") != "end"

    def move(self, number):
        if not self.goes_on(number):
            self.alive.remove(number)

    def move_whole(self, number):
        many = len(self.texts[number])
        while len(self.texts[number]) == many:
            self.move(number)

    def acting(self, number, process):
        """Stops before each moment of the process."""
        for index, call in enumerate(process.calls):
            result = yield from self.calling((number, index), process, call)
            self.texts[number].append(self.text(result))

    def text(self, result):
        if result[0] == "came" and result[1] >= self.old:
            return "made %d %d" % self.makers[result[1] - self.old]
        return " ".join(str(word) for word in result)

    def calling(self, who, process, call):
        kind = call.__class__.__name__
        if kind == "Find":
            going = PlainWalk(process.place, call.path, process.look)
            if going.result is not None:
                yield
                self.log.append(who)
            else:
                yield from self.walking(who, going)
            return going.result
        paths = [call.path] + ([call.other] if kind == "Shift" else [])
        if [1 for path in paths if path.steps[-1:] in ((), ("..",))]:
            yield
            self.log.append(who)
            return ("refused", "name")
        homes = []
        for path in paths:
            going = PlainWalk(process.place, Path(path.steps[:-1], path.absolute, True), process.look)
            yield from self.walking(who, going)
            if going.result[0] == "refused":
                return going.result
            homes.append(going.result[1])
        yield
        self.log.append(who)
        return self.deed(who, process, call, kind, homes, [path.steps[-1] for path in paths])

    def walking(self, who, going):
        while going.result is None:
            yield
            self.log.append(who)
            going.do(self.tree)

    def deed(self, who, process, call, kind, homes, names):
        if kind == "Shift":
            deed = Move(homes[0], names[0], homes[1], names[1])
        elif kind == "Remove":
            deed = Take(homes[0], names[0])
        else:
            deed = {"folder": MakeFolder, "file": MakeFile}[call.kind](homes[0], names[0], process.owner)
        try:
            self.tree = done(self.tree, deed)
        except NoDeed as error:
            return ("refused", error.why)
        if kind == "Make":
            self.makers.append(who)
        return ("done",)

    def flat(self):
        return [text for row in self.texts for text in row]

    def spans(self):
        return {who: (self.log.index(who), len(self.log) - 1 - self.log[::-1].index(who)) for who in set(self.log)}


def all_worlds(tree, processes, whole):
    """The ends of all weavings, each played from its begin; of orders of whole calls, if whole."""
    waiting = [()]
    while waiting:
        order = waiting.pop()
        world = World(tree, processes)
        for number in order:
            world.move_whole(number) if whole else world.move(number)
        if not world.alive:
            yield world
        waiting.extend([order + (number,) for number in world.alive])


def plain_endings(tree, processes):
    """The list of (texts, count, whole, timely)."""
    orders = [(world.flat(), world.spans()) for world in all_worlds(tree, processes, True)]
    found = {}
    for world in all_worlds(tree, processes, False):
        texts, spans = world.flat(), world.spans()
        fitting = [own for flat, own in orders if flat == texts]
        row = found.setdefault(tuple(texts), [texts, 0, bool(fitting), 0])
        row[1] += 1
        row[3] += any(all(own[one][1] < own[other][0] for one in spans for other in spans
                          if one != other and spans[one][1] < spans[other][0]) for own in fitting)
    return [tuple(found[key]) for key in sorted(found)]
