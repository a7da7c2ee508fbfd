"""Trees, paths, looks and rows that are drawn; the same ones for the same number."""

import random

from namewalk.deeds import MakeFile, MakeFolder, MakeLink, Move, Put, Take, done
from namewalk.errors import NoDeed
from namewalk.paths import Path
from namewalk.trees import File, Folder, Gone, Link, Tree
from namewalk.walking import Look


def generator(number):
    return random.Random(number)


def draw_tree(rng, many, names="abc", kinds="ddddfflg", owners=2, text=None):
    """A tree of many nodes; files and links in up to three entries, gone folders at the end of no entry."""
    entries = {0: {}}
    kept = ["d"] + [rng.choice(kinds) for _ in range(many - 1)]
    for number in range(1, many):
        if kept[number] == "d":
            free = [(at, name) for at in entries for name in names if name not in entries[at]]
            if not free:
                kept[number] = "f"
            else:
                at, name = rng.choice(free)
                entries[at][name] = number
                entries[number] = {}
    for number in range(1, many):
        if kept[number] in "fl":
            for _ in range(rng.choice([0, 1, 1, 1, 2, 3])):
                free = [(at, name) for at in entries for name in names if name not in entries[at]]
                if free:
                    at, name = rng.choice(free)
                    entries[at][name] = number
    homes = [number for number in range(many) if kept[number] in "dg"]
    nodes = []
    for number, kind in enumerate(kept):
        owner = rng.randrange(owners)
        if kind == "d":
            nodes.append(Folder(owner, list(entries[number].items())))
        elif kind == "f":
            nodes.append(File(owner))
        elif kind == "l":
            nodes.append(Link(owner, text or draw_text(rng, names)))
        else:
            nodes.append(Gone(owner, rng.choice([home for home in homes if home != number])))
    return Tree(nodes)


def draw_text(rng, names="abc", most=3):
    steps = [rng.choice(list(names) + [".."]) for _ in range(rng.randint(0, most))]
    return rng.choice(["", "", "/"]) + "/".join(steps or ["."]) + rng.choice(["", "", "/"])


def draw_path(rng, most, names="abc", up=True, least=0):
    steps = [rng.choice(list(names) + ([".."] if up else [])) for _ in range(rng.randint(least, most))]
    folder = not steps or steps[-1] == ".." or rng.random() < 0.3
    return Path(steps, rng.random() < 0.2, folder)


def draw_look(rng, owners=2):
    asked = rng.choice([None, None, [rng.randrange(owners)], list(range(owners))])
    return Look(rng.random() < 0.6, rng.random() < 0.5, asked)


def draw_deed(rng, tree, names="abc", owners=2):
    numbers = range(len(tree.nodes))
    folder, name = rng.choice(numbers), rng.choice(names)
    kind = rng.randrange(9)
    if kind == 0:
        return MakeFolder(folder, name, rng.randrange(owners))
    if kind == 1:
        return MakeFile(folder, name, rng.randrange(owners))
    if kind == 2:
        return MakeLink(folder, name, rng.randrange(owners), draw_text(rng, names))
    if kind == 3:
        return Put(folder, name, rng.choice(numbers))
    if kind in (4, 5):
        return Take(folder, name)
    return Move(folder, name, rng.choice(numbers), rng.choice(names))


def draw_row(rng, tree, many, names="abc", owners=2, kinds=(MakeFile, MakeFolder, MakeLink, Move, Put, Take)):
    """A row of many deeds of these kinds that can be done; of fewer, if none is found for long."""
    row = []
    for _ in range(many * 200):
        if len(row) == many:
            break
        deed = draw_deed(rng, tree, names, owners)
        if isinstance(deed, kinds):
            try:
                tree = done(tree, deed)
            except NoDeed:
                continue
            row.append(deed)
    return row


def takes_folders(tree, row, kinds=(Move, Take)):
    """Whether a deed of one of these kinds takes a folder from its entry."""
    for deed in row:
        if isinstance(deed, kinds) and isinstance(tree.nodes[dict(tree.nodes[deed.folder].entries)[deed.name]], Folder):
            return True
        tree = done(tree, deed)
    return False


def places(tree):
    return [number for number, node in enumerate(tree.nodes) if isinstance(node, (Folder, Gone))]
