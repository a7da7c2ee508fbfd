"""Values that the tests hand in where something else is expected, and a tree with others."""

from namewalk.certificates import Certificate
from namewalk.deeds import MakeFile, MakeFolder, MakeLink, Move, Put, Take
from namewalk.desk import Desk
from namewalk.endings import Ending
from namewalk.errors import NoNode, NoPath
from namewalk.others import Others
from namewalk.paths import Path
from namewalk.processes import Done, Find, Made, Make, Process, Remove, Shift
from namewalk.reaching import New
from namewalk.session import Session
from namewalk.trees import File, Folder, Gone, Link, Tree
from namewalk.walking import Came, Look, Refused
from namewalk.weavings import Outcome

INTERFACE_OBJECTS = [
    Path(("a",), False, False), Folder(0, []), File(0), Link(0, "a"), Gone(0, 0),
    Tree([Folder(0, [])]), NoPath(), NoNode(1), Look(False, False, None), Came(1), Refused("none"),
    MakeFolder(0, "a", 0), MakeFile(0, "a", 0), MakeLink(0, "a", 0, "a"), Put(0, "a", 1), Take(0, "a"),
    Move(0, "a", 0, "b"), Outcome(Came(1), 1, (), ()), Others(0, [0]), New("file"), Certificate(["look"]),
    Find(Path(("a",), False, False)), Make("file", Path(("a",), False, False)), Remove(Path(("a",), False, False)),
    Shift(Path(("a",), False, False), Path(("b",), False, False)), Process(0, Look(False, False, None), 0, []), Done(),
    Made(0, 1), Ending([[]], 1, True, 1), Session(Tree([Folder(0, [])]), Others(0, [])),
    Desk(Tree([Folder(0, [])]), Others(0, [])),
]

# Of built-in types, but neither a number nor a string.
NEITHER = [
    None, True, False, 0.0, 1.0, float("nan"), 1j, b"", b"a", bytearray(b"a"), [], ["a"], (), ("a",), (1,),
    {}, {"a": 1}, set(), {1}, frozenset(), range(1), Ellipsis, NotImplemented, int, len, object(),
    slice(1), memoryview(b"a"), iter([]), lambda: 1, ValueError("a"),
] + INTERFACE_OBJECTS

NO_NUMBERS = NEITHER + ["", "0", "1", "a"]
NO_STRINGS = NEITHER + [0, 1, -1, 10 ** 30]
NO_OWNERS = NO_NUMBERS + [-1, -10 ** 30]

GOOD_NAMES = [
    "a", "z", "0", "9", "_", "-", "...", "....", ".a", "a.", "..a", "a..", ".-", "a.b-c_d", "abcdefghijkl",
    "............", "012345678901",
]
BAD_NAMES = [
    "", ".", "..", "A", "aB", "a b", " a", "a ", "a/b", "/", "a/", "abcdefghijklm", "a" * 1000, "a\n", "\n", "a\x00",
    "a:", "a~", "a=1", "a+b", "a,b", "a;b", "a*", "a?", "\\", "\u00e4", "\u00df", "\u0661", "\u00b2", "\uff41",
    "a\ud800", "a\u0301",
]


def sample():
    """Folders 1, 2 and 6 are theirs below: 2 stands in 1, 6 in 3, which is another's in 1."""
    return Tree([
        Folder(0, [("a", 1), ("f", 4), ("o", 9)]),
        Folder(1, [("b", 2), ("c", 3), ("g", 5)]),
        Folder(2, []),
        Folder(3, [("d", 6)]),
        File(0),
        File(5),
        Folder(6, [("e", 7)]),
        Folder(7, []),
        Gone(8, 2),
        Folder(9, [("h", 10), ("i", 5)]),
        File(5),
        Gone(5, 8),
        File(5),
    ])


# The loose nodes are 2 and 5; the files 10 and 12 are theirs, too.
THEIRS = Others(5, [1, 2, 6])
