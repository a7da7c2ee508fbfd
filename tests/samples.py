"""Values that the tests hand in where something else is expected."""

from namewalk.deeds import MakeFile, MakeFolder, MakeLink, Move, Put, Take
from namewalk.errors import NoNode, NoPath
from namewalk.others import Others
from namewalk.paths import Path
from namewalk.reaching import New
from namewalk.trees import File, Folder, Gone, Link, Tree
from namewalk.walking import Came, Look, Refused
from namewalk.weavings import Outcome

INTERFACE_OBJECTS = [
    Path(("a",), False, False), Folder(0, []), File(0), Link(0, "a"), Gone(0, 0),
    Tree([Folder(0, [])]), NoPath(), NoNode(1), Look(False, False, None), Came(1), Refused("none"),
    MakeFolder(0, "a", 0), MakeFile(0, "a", 0), MakeLink(0, "a", 0, "a"), Put(0, "a", 1), Take(0, "a"),
    Move(0, "a", 0, "b"), Outcome(Came(1), 1, (), ()), Others(0, [0]), New("file"),
]

# Of built-in types, but neither a number nor a string.
NEITHER = [
    None, True, False, 0.0, 1.0, float("nan"), 1j, b"", b"a", bytearray(b"a"), [], ["a"], (), ("a",), (1,),
    {}, {"a": 1}, set(), {1}, frozenset(), range(1), Ellipsis, NotImplemented, int, len, object(),
    slice(1), memoryview(b"a"), iter([]), lambda: 1, ValueError("a"),
] + INTERFACE_OBJECTS

NO_NUMBERS = NEITHER + ["", "0", "1", "a"]
NO_STRINGS = NEITHER + [0, 1, -1, 10 ** 30]
NO_OWNERS = NO_NUMBERS + [-1, -10 ** 30]

GOOD_NAMES = [
    "a", "z", "0", "9", "_", "-", "...", "....", ".a", "a.", "..a", "a..", ".-", "a.b-c_d", "abcdefghijkl",
    "............", "012345678901",
]
BAD_NAMES = [
    "", ".", "..", "A", "aB", "a b", " a", "a ", "a/b", "/", "a/", "abcdefghijklm", "a" * 1000, "a\n", "\n", "a\x00",
    "a:", "a~", "a=1", "a+b", "a,b", "a;b", "a*", "a?", "\\", "\u00e4", "\u00df", "\u0661", "\u00b2", "\uff41",
    "a\ud800", "a\u0301",
]
