"""Point [25]: desks."""

import unittest

from namewalk.deeds import MakeFile, MakeFolder, MakeLink, Move, Put, Take
from namewalk.desk import Desk
from namewalk.errors import NoNode, WalkError
from namewalk.others import Others, loose
from namewalk.paths import path_text
from namewalk.session import Session
from namewalk.trees import File, Folder, Gone, Link, Tree
from namewalk.walking import Look
from namewalk.walktexts import read_row, result_text, row_text, tree_text
from tests.drawn import draw_deed, draw_path, draw_tree, generator
from tests.samples import BAD_NAMES, NO_NUMBERS, NO_STRINGS

BAD = ["refused badtext"]


def sample():
    """Folders 1 and 2 are theirs."""
    return Tree([Folder(0, [("a", 1), ("f", 3), ("l", 6)]), Folder(0, [("b", 2), ("c", 4), ("g", 5)]), Folder(0, []),
                 File(0), Folder(0, [("e", 7)]), File(5), Link(0, "a/b"), File(0), Gone(0, 2)])


THEIRS = Others(5, [1, 2])
TEXT = ("folder 0 a=1 f=3 l=6; folder 0 b=2 c=4 g=5; folder 0; file 0; folder 0 e=7; file 5; link 0 a/b; file 0; "
        "gone 0 2")


class Checked(unittest.TestCase):
    def told(self, desk, *rows):
        """Each row is a command and its answer."""
        for command, answer in rows:
            with self.subTest(command):
                self.assertEqual(desk.tell(command), answer)

    def state(self, desk):
        return [desk.tell(command) for command in ("tree", "loose", "history", "can")]

    def refused(self, desk, command, word):
        """The command is refused, and nothing is changed by it."""
        with self.subTest(repr(command)):
            before = self.state(desk)
            self.assertEqual(desk.tell(command), ["refused " + word])
            self.assertEqual(self.state(desk), before)


class CommandsTest(Checked):
    def test_walks(self):
        self.told(Desk(sample(), THEIRS), ("begin 0 plain a/b", ["walking"]), ("step", ["on"]), ("step", ["came 2"]),
                  ("begin 8 plain ../../x", ["walking"]), ("step", ["on"]), ("step", ["on"]),
                  ("step", ["refused none"]),
                  ("begin 2 plain .", ["walking"]), ("step", ["came 2"]), ("begin 2 plain /", ["walking"]),
                  ("step", ["came 0"]), ("history", ["came 2", "refused none", "came 2", "came 0"]))

    def test_how_links_are_followed(self):
        self.told(Desk(sample(), THEIRS), ("begin 0 plain l", ["walking"]), ("step", ["came 6"]),
                  ("begin 0 plain l/", ["walking"]), ("step", ["refused link"]),
                  ("begin 0 nearly l", ["walking"]), ("step", ["came 6"]),
                  ("begin 0 nearly l/", ["walking"]), ("step", ["on"]), ("step", ["on"]), ("step", ["came 2"]),
                  ("begin 0 all l", ["walking"]), ("step", ["on"]), ("step", ["on"]), ("step", ["came 2"]),
                  ("begin 0 all f/x", ["walking"]), ("step", ["refused file"]))

    def test_no_owners_are_asked(self):
        tree = Tree([Folder(0, [("a", 1)]), Folder(99, [("f", 2)]), File(12345)])
        self.told(Desk(tree, Others(1, [])), ("begin 0 all a/f", ["walking"]), ("can", ["came 2"]), ("step", ["on"]),
                  ("step", ["came 2"]))

    def test_deeds(self):
        desk = Desk(sample(), THEIRS)
        self.told(desk, ("file 1 x 5", ["done"]), ("folder 2 n 5", ["done"]), ("link 10 k 5 /a//b/.", ["done"]),
                  ("put 10 p 5", ["done"]), ("take 1 x", ["done"]), ("move 2 n 1 m", ["done"]),
                  ("tree", ["folder 0 a=1 f=3 l=6; folder 0 b=2 c=4 g=5 m=10; folder 0; file 0; folder 0 e=7; file 5; "
                            "link 0 a/b; file 0; gone 0 2; file 5; folder 5 k=11 p=5; link 5 /a//b/."]))

    def test_back(self):
        desk = Desk(sample(), THEIRS)
        seen = []
        for command in ("begin 0 plain a/b", "file 1 x 5", "step", "take 1 b", "step", "begin 0 all ."):
            seen.append(self.state(desk))
            self.assertNotIn("refused badtext", desk.tell(command))
        for state in seen[::-1]:
            self.assertEqual(desk.tell("back"), ["done"])
            self.assertEqual(self.state(desk), state)
        self.refused(desk, "back", "noback")

    def test_can(self):
        desk = Desk(sample(), THEIRS)
        self.told(desk, ("begin 0 plain a/b", ["walking"]), ("step", ["on"]),
                  ("can", ["came 2", "came 4", "came 5", "new folder", "new file", "new link", "refused none"]),
                  ("folder 1 n 5", ["done"]),
                  ("can", ["came 2", "came 4", "came 5", "new folder", "new file", "new link", "refused none"]),
                  ("move 1 b 9 b", ["done"]), ("move 1 n 1 b", ["done"]), ("step", ["came 9"]),
                  ("begin 9 plain .", ["walking"]), ("can", ["new folder"]), ("step", ["came 9"]),
                  ("history", ["came 9", "came 9"]))

    def test_tree(self):
        desk = Desk(sample(), THEIRS)
        self.told(desk, ("tree", [TEXT]), ("take 1 g", ["done"]), ("tree", [TEXT.replace(" g=5", "")]),
                  ("take 1 b", ["done"]),
                  ("tree", ["folder 0 a=1 f=3 l=6; folder 0 c=4; gone 0 1; file 0; folder 0 e=7; file 5; link 0 a/b; "
                            "file 0; gone 0 2"]))

    def test_loose(self):
        desk = Desk(sample(), THEIRS)
        self.told(desk, ("loose", ["2 5"]), ("folder 2 n 5", ["done"]), ("loose", ["2 5 9"]), ("file 9 x 5", ["done"]),
                  ("loose", ["2 5 9 10"]), ("take 9 x", ["done"]), ("take 2 n", ["done"]), ("loose", ["2 5"]),
                  ("take 1 g", ["done"]), ("take 1 b", ["done"]), ("loose", ["none"]), ("back", ["done"]),
                  ("loose", ["2"]))
        self.assertEqual(Desk(sample(), Others(5, [])).tell("loose"), ["none"])

    def test_history(self):
        desk = Desk(sample(), THEIRS)
        self.told(desk, ("history", []), ("begin 0 plain zz", ["walking"]), ("history", []), ("step", ["refused none"]),
                  ("history", ["refused none"]), ("back", ["done"]), ("history", []))

    def test_answers_are_new_lists(self):
        desk = Desk(sample(), THEIRS)
        desk.tell("begin 0 plain a/b")
        for command in ("can", "tree", "loose", "history", "bad"):
            found = desk.tell(command)
            copied = list(found)
            found.append("more")
            self.assertEqual(desk.tell(command), copied)

    def test_the_tree_that_was_handed_in_stays_as_it_is(self):
        tree, others = sample(), Others(5, [1, 2])
        one, other = Desk(tree, others), Desk(tree, others)
        one.tell("folder 1 n 5")
        one.tell("begin 0 plain a")
        self.assertEqual((tree, others), (sample(), THEIRS))
        self.assertEqual(self.state(other), [[TEXT], ["2 5"], [], ["refused idle"]])


class BadTextTest(Checked):
    ROWS = [
        "", " ", "x", "Step", "STEP", " step", "step ", "step step", "step 1", "step\n", "back ", "back 1", " back",
        "backs",
        "can ", " can", "can 1", "tree ", "trees", "tree 0", "loose ", "loose 1", "history ", "history 1", "on",
        "walking",
        "done", "now", "many", "do take 1 g", "nothing", "take 1 g, take 1 b", "take 1 g, ", "take 1 g,", "take 1 g;",
        "take 1", "take 1 G", "take  1 g", "take 1  g", " take 1 g", "take 1 g ", "take 01 g", "take -1 g",
        "take 1 g g",
        "take g 1", "Take 1 g", "take\t1 g", "file 1 x", "file 1 x 5 5", "file 1 x 05", "file 1 x 1234567890",
        "file 1 x -5", "folder 1 X 5", "folder 1 . 5", "folder 1 .. 5", "folder 1 abcdefghijklm 5", "folder 0",
        "file 0",
        "link 1 x 5", "link 1 x 5 A", "link 1 x 5 a b", "link 1 x 5 ", "link 5 a", "gone 0 1", "put 1 x", "put 1 x a",
        "put 1 x 5 5", "move 1 g 2", "move 1 g g", "move 1 g 2 g g", "move 1 g 2 ..", "folder 0 a=1",
        "begin", "begin 0", "begin 0 plain", "begin 0 plain ", "begin 0 plain a b", "begin 0 plain A",
        "begin 0 plain a ",
        "begin  0 plain a", "begin 0  plain a", "begin 0 plain  a", " begin 0 plain a", "begin 00 plain a",
        "begin -1 plain a", "begin a plain a", "begin 1234567890 plain a", "begin 0 Plain a", "begin 0 some a",
        "begin 0 none a", "begin plain 0 a", "begin plain a", "begin 0 a", "begin 0 all a/b/C", "begin 0 all a\n",
        "begin 0 all abcdefghijklm", "begin 9999999999 all a", "Begin 0 plain a", "begin 0 plain \u00e4",
        "begin\t0 plain a",
        "begin 0 plain,nearly a", "begin 0 plain a, step", "refused badtext", "came 1", "\u0661", "step\u00a0",
    ]

    def test_whatever_is_under_way(self):
        """Also where the session would refuse it otherwise: with nothing or something under way, with nothing theirs."""
        busy, empty = Desk(sample(), THEIRS), Desk(sample(), Others(5, []))
        busy.tell("begin 0 plain a/b")
        for desk in (Desk(sample(), THEIRS), busy, empty):
            for row in self.ROWS:
                self.refused(desk, row, "badtext")

    def test_before_anything_else(self):
        desk = Desk(sample(), THEIRS)
        for row in ("begin 99 plain A", "begin 3 plain ", "take 0 F", "take 99 g g", "file 99 x", "step ", "back 2"):
            self.refused(desk, row, "badtext")
        desk.tell("begin 0 plain a")
        for row in ("begin 99 plain A", "begin 0 plain", "begin 0 what a"):
            self.refused(desk, row, "badtext")

    def test_names(self):
        desk = Desk(sample(), THEIRS)
        for name in BAD_NAMES:
            for row in ("file 1 %s 5", "take 1 %s", "move 1 g 2 %s"):
                self.refused(desk, row % name, "badtext")

    def test_no_strings(self):
        for desk in (Desk(sample(), THEIRS), Desk(sample(), Others(5, []))):
            for row in NO_STRINGS + [["step"], ("step",), b"step", {"step": 1}]:
                self.refused(desk, row, "badtext")


class RefusedTest(Checked):
    def test_busy_and_no_node(self):
        desk = Desk(sample(), THEIRS)
        for place in ("3", "5", "6", "9", "999999999"):
            self.refused(desk, "begin %s plain a" % place, "nonode")
        desk.tell("begin 0 plain a/b")
        for place in ("0", "3", "99"):
            self.refused(desk, "begin %s plain a" % place, "busy")
        desk.tell("step")
        self.refused(desk, "begin 0 all /", "busy")

    def test_idle(self):
        desk = Desk(sample(), THEIRS)
        self.refused(desk, "step", "idle")
        self.refused(desk, "can", "idle")
        desk.tell("begin 0 plain a")
        desk.tell("step")
        self.refused(desk, "step", "idle")
        self.refused(desk, "can", "idle")

    def test_forbidden(self):
        desk = Desk(sample(), THEIRS)
        for row in ("take 0 f", "file 0 x 5", "file 1 x 4", "put 2 x 3", "take 1 c", "move 1 c 2 c", "move 1 g 0 g",
                    "take 1 zz", "file 1 b 5", "file 99 x 5", "put 2 x 1", "put 2 x 99", "move 1 b 2 b", "take 0 a",
                    "folder 1 x 0", "link 1 x 0 a", "take 5 a", "take 8 a", "file 8 x 5"):
            self.refused(desk, row, "forbidden")
        desk.tell("folder 2 n 5")
        self.refused(desk, "take 1 b", "forbidden")
        desk.tell("take 2 n")
        self.refused(desk, "file 9 x 5", "forbidden")

    def test_no_back(self):
        desk = Desk(sample(), THEIRS)
        self.refused(desk, "back", "noback")
        desk.tell("take 0 f")
        desk.tell("what")
        self.refused(desk, "back", "noback")

    def test_others_whose_folders_are_none(self):
        for number in NO_NUMBERS + [-1, 99, 10 ** 30, 3, 6, 8]:
            with self.assertRaises(NoNode) as caught:
                Desk(sample(), Others(5, [1, number, None]))
            self.assertIs(caught.exception.node, number)


class DrawnTest(Checked):
    WAYS = {"plain": (False, False), "nearly": (True, False), "all": (True, True)}

    def test_as_in_a_session(self):
        rng = generator(151)
        seen = set()
        for _ in range(150):
            tree = draw_tree(rng, rng.randint(1, 7), names="ab", kinds=rng.choice(["dddfg", "ddf"]))
            folders = [number for number, node in enumerate(tree.nodes) if isinstance(node, Folder)]
            others = Others(rng.randrange(2), rng.sample(folders, rng.randint(0, len(folders))))
            desk, session = Desk(tree, others), Session(tree, others)
            theirs = list(others.folders)
            for _ in range(25):
                kind = rng.choice(["begin", "step", "step", "back", "do", "do", "do", "can"])
                row, answer = self.command(rng, kind, session)
                self.assertEqual(desk.tell(row), answer)
                seen.add((kind, answer[0] if answer and answer[0].startswith("refused") and kind != "can" else ""))
                self.assertEqual(desk.tell("tree"), [tree_text(session.now())])
                self.assertEqual(desk.tell("history"), [result_text(one) for one in session.history()])
                if session.many() == 0:
                    found = " ".join(str(number) for number in loose(tree, Others(0, theirs)))
                    self.assertEqual(desk.tell("loose"), [found or "none"])
        self.assertLessEqual({("begin", "refused busy"), ("begin", "refused nonode"), ("step", "refused idle"),
                              ("back", "refused noback"), ("do", "refused forbidden"), ("do", ""), ("begin", "")}, seen)

    def command(self, rng, kind, session):
        """A command, and what the session does of it."""
        place, how, path = rng.randrange(9), rng.choice(list(self.WAYS)), draw_path(rng, 4, names="ab")
        deed = draw_deed(rng, session.now(), names="ab")
        row = {"begin": "begin %d %s %s" % (place, how, path_text(path)), "do": row_text([deed])}.get(kind, kind)
        try:
            if kind == "begin":
                session.begin(place, path, Look(*self.WAYS[how], None))
                return row, ["walking"]
            if kind == "can":
                return row, [result_text(one) for one in session.can()]
            found = session.do(deed) if kind == "do" else getattr(session, kind)()
        except WalkError as error:
            return row, [error.told()]
        return row, ["done"] if kind != "step" else ["on"] if found is None else [result_text(found)]

    def test_the_texts_of_all_kinds_of_deeds(self):
        for deed in (MakeFolder(1, "x", 5), MakeFile(1, "x", 5), MakeLink(1, "x", 5, "../a"), Put(2, "x", 5),
                     Take(1, "g"),
                     Move(1, "c", 1, "d")):
            desk, session = Desk(sample(), THEIRS), Session(sample(), THEIRS)
            session.do(deed)
            self.assertEqual(desk.tell(row_text([deed])), ["done"])
            self.assertEqual(desk.tell("tree"), [tree_text(session.now())])
            self.assertEqual(read_row(row_text([deed])), [deed])


if __name__ == "__main__":
    unittest.main()
