"""Point [23]: sessions."""

import unittest

from namewalk.deeds import MakeFile, MakeFolder, MakeLink, Move, Put, Take
from namewalk.errors import Busy, Forbidden, Idle, NoBack, NoNode, WalkError
from namewalk.others import Others
from namewalk.paths import read_path
from namewalk.reaching import New, reach
from namewalk.session import Session
from namewalk.trees import File, Folder, Gone, Link, Tree
from namewalk.walking import Came, Look, Refused
from tests.drawn import draw_deed, draw_look, draw_path, draw_tree, generator
from tests.plain import plain
from tests.plain_reach import told
from tests.plain_session import Error, PlainSession
from tests.samples import NO_NUMBERS

PLAIN = Look(False, False, None)
ALL = Look(True, True, None)
NEWS = [New("folder"), New("file"), New("link")]


def sample():
    """Folders 1 and 2 are theirs; 4 stands in 1, but is not theirs."""
    return Tree([Folder(0, [("a", 1), ("f", 3), ("l", 6)]), Folder(0, [("b", 2), ("c", 4), ("g", 5)]), Folder(0, []),
                 File(0), Folder(0, [("e", 7)]), File(5), Link(0, "a/b"), File(0), Gone(0, 2)])


THEIRS = Others(5, [1, 2])


class Checked(unittest.TestCase):
    def begun(self, path="a/b/x", look=PLAIN, place=0, tree=None, others=THEIRS):
        session = Session(tree or sample(), others)
        session.begin(place, read_path(path), look)
        return session

    def seen(self, session):
        """All that a session tells."""
        try:
            can = session.can()
        except Idle:
            can = "idle"
        return session.now(), can, session.history(), session.many()

    def refused(self, session, error, call):
        """The call raises the error, and changes nothing, also of what can be undone."""
        before = self.seen(session)
        with self.assertRaises(WalkError) as caught:
            call()
        self.assertIs(caught.exception.__class__, error)
        self.assertEqual(self.seen(session), before)
        return caught.exception


class WalkTest(Checked):
    def test_a_walk_to_its_end(self):
        session = Session(sample(), THEIRS)
        self.assertIsNone(session.begin(0, read_path("a/b"), PLAIN))
        self.assertEqual((session.step(), session.step()), (None, Came(2)))
        self.assertEqual(session.history(), [Came(2)])
        self.refused(session, Idle, session.step)
        session.begin(2, read_path("../x/y"), PLAIN)
        self.assertEqual((session.step(), session.step()), (None, Refused("none")))
        self.assertEqual(session.history(), [Came(2), Refused("none")])
        self.assertEqual(session.many(), 6)

    def test_a_walk_without_steps(self):
        for place, text, end in ((0, ".", 0), (2, "./", 2), (8, ".", 8), (4, "/", 0)):
            for look in (PLAIN, ALL, Look(True, True, [])):
                session = Session(sample(), THEIRS)
                session.begin(place, read_path(text), look)
                self.refused(session, Busy, lambda: session.begin(0, read_path("a"), PLAIN))
                self.assertEqual((session.can(), session.history(), session.many()), ([Came(end)], [], 1))
                session.do(MakeFile(1, "x", 5))
                self.assertEqual(session.can(), [Came(end)])
                self.assertEqual(session.step(), Came(end))
                self.assertEqual((session.history(), session.many()), ([Came(end)], 3))
                self.refused(session, Idle, session.can)

    def test_a_walk_among_deeds(self):
        session = self.begun("a/b/x/..")
        session.step()
        session.do(Move(1, "b", 1, "d"))
        session.do(MakeFolder(1, "b", 5))
        self.assertIsNone(session.step())
        session.do(Take(1, "b"))
        self.assertEqual(session.step(), Refused("none"))
        self.assertEqual(session.now().nodes[9], Gone(5, 1))

    def test_nodes_are_told_by_their_numbers(self):
        session = self.begun("a/x")
        session.do(MakeFile(1, "x", 5))
        self.assertIn(New("file"), session.can())
        session.step()
        self.assertEqual((session.step(), session.history()), (Came(9), [Came(9)]))

    def test_links_and_owners(self):
        session = self.begun("l/x", ALL)
        self.assertEqual([session.step(), session.step(), session.step()], [None, None, None])
        session.do(MakeLink(2, "x", 5, "/f/"))
        self.assertEqual((session.step(), session.step()), (None, Refused("file")))
        session = self.begun("a/x", Look(False, False, [0]))
        session.step()
        session.do(MakeFile(1, "x", 5))
        self.assertEqual(session.step(), Refused("owner"))

    def test_the_walk_holds_the_folder_where_it_stands(self):
        session = self.begun("a/b/..")
        session.step()
        session.step()
        session.do(Take(1, "b"))
        self.assertEqual(session.can(), [Came(1)])
        self.assertEqual(session.step(), Came(1))

    def test_walks_begin_in_the_present_tree(self):
        session = Session(sample(), THEIRS)
        session.do(MakeFolder(2, "n", 5))
        session.do(Take(1, "g"))
        session.begin(9, read_path("../../g"), PLAIN)
        self.assertEqual([session.step(), session.step(), session.step()], [None, None, Refused("none")])
        session.do(Take(2, "n"))
        session.begin(9, read_path(".."), PLAIN)
        self.assertEqual(session.step(), Came(2))


class DoTest(Checked):
    def test_deeds(self):
        session = Session(sample(), THEIRS)
        self.assertIsNone(session.do(MakeFile(1, "x", 5)))
        self.assertEqual(session.now().nodes[9], File(5))
        self.assertEqual(session.many(), 1)

    def test_forbidden(self):
        session = self.begun()
        for deed in (MakeFile(0, "x", 5), MakeFile(1, "x", 4), Put(2, "x", 3), Take(1, "c"), Move(1, "c", 2, "c"),
                     Take(0, "a"), Take(1, "zz"), Take(1, "B"), MakeFile(1, "b", 5),
                     MakeFolder(1, "x", -1), MakeLink(1, "x", 5, "A"), MakeFile(99, "x", 5), Move(1, "b", 2, "x"),
                     Move(1, "g", 0, "g"), MakeFile(None, "x", 5), MakeFile(1, None, 5), MakeFile(8, "x", 5)):
            self.refused(session, Forbidden, lambda: session.do(deed))

    def test_folders_that_they_make_are_theirs(self):
        session = self.begun()
        session.do(MakeFolder(2, "n", 5))
        session.do(MakeFile(9, "x", 5))
        session.do(MakeFolder(9, "m", 5))
        session.do(Move(1, "g", 11, "g"))
        session.do(Move(2, "n", 1, "n"))
        self.refused(session, Forbidden, lambda: session.do(MakeFile(10, "y", 5)))

    def test_gone_folders_are_not_theirs_any_more(self):
        session = self.begun()
        session.do(MakeFolder(2, "n", 5))
        session.do(Take(2, "n"))
        self.refused(session, Forbidden, lambda: session.do(MakeFile(9, "x", 5)))
        session.do(Take(1, "b"))
        self.refused(session, Forbidden, lambda: session.do(MakeFile(2, "x", 5)))

    def test_what_is_theirs_over_back(self):
        session = Session(sample(), THEIRS)
        session.do(MakeFolder(1, "n", 5))
        session.do(Take(1, "n"))
        session.back()
        session.do(MakeFile(9, "x", 5))
        session.back()
        session.back()
        self.refused(session, Forbidden, lambda: session.do(MakeFile(9, "x", 5)))
        session.do(Take(1, "b"))
        session.back()
        session.do(MakeFile(2, "x", 5))
        # The number of the new folder is that of the file now.
        self.refused(session, Forbidden, lambda: session.do(MakeFile(9, "x", 5)))


class CanTest(Checked):
    def test_from_the_beginning(self):
        for path in ("a/b/x", "a/x/", "l", "../a/x/..", "."):
            for look in (PLAIN, ALL, Look(True, False, [0])):
                self.assertEqual(self.begun(path, look).can(), reach(sample(), THEIRS, 0, read_path(path), look))

    def test_while_the_walk_goes_on(self):
        session = self.begun("a/b/x")
        everything = session.can()
        self.assertIn(Refused("file"), everything)
        session.step()
        self.assertEqual(session.can(), everything)
        session.step()
        self.assertEqual(session.can(), [Came(5)] + NEWS + [Refused("none")])
        session.step()
        self.refused(session, Idle, session.can)

    def test_after_deeds(self):
        session = self.begun("a/b/x")
        session.step()
        session.do(Take(1, "g"))
        # They own it, so that it can be put there again.
        self.assertIn(Came(5), session.can())
        session.do(Take(1, "b"))
        self.assertEqual(session.can(), [Came(5)] + NEWS + [Refused("none"), Refused("file"), Refused("link")])
        self.assertEqual(session.step(), Refused("none"))
        tree = Tree([Folder(0, [("a", 1)]), Folder(0, [("f", 2), ("c", 3)]), File(0), Folder(0, [])])
        session = self.begun("a/x", tree=tree, others=Others(5, [1]))
        self.assertIn(Came(2), session.can())
        session.do(Take(1, "f"))
        self.assertNotIn(Came(2), session.can())

    def test_new_nodes(self):
        """Nodes that others made are new, also if the present tree has them; a gone folder is a folder."""
        session = self.begun("a/n/..")
        session.step()
        session.do(MakeFolder(1, "n", 5))
        session.do(MakeFolder(9, "m", 5))
        session.step()
        self.assertEqual(session.can(), [Came(1), Came(2), New("folder")])
        session.do(Move(1, "n", 2, "n"))
        self.assertEqual(session.can(), [Came(1), Came(2), New("folder")])
        session.do(Take(9, "m"))
        session.do(Take(2, "n"))
        self.assertEqual(session.can(), [Came(2)])
        session.back()
        session.step()
        session.begin(10, read_path("."), PLAIN)
        self.assertEqual(session.can(), [New("folder")])
        self.assertEqual(session.step(), Came(10))
        session.begin(10, read_path(".."), PLAIN)
        self.assertEqual(session.can(), [New("folder")])
        self.assertEqual(session.step(), Came(9))

    def test_behind_links(self):
        """The links so far count, and the steps of their texts come first."""
        tree = Tree([Folder(0, [("a", 1)]), Folder(0, [("l", 2)]), Link(1, "./.")])
        session = self.begun("l/l/l/l/l/l/l/l/l", Look(True, True, [1]), 1, tree, Others(5, [1]))
        for _ in range(8):
            self.assertIn(Refused("links"), session.can())
            self.assertNotIn(Came(1), session.can())
            self.assertIsNone(session.step())
        self.assertEqual(session.can(), [Refused("none"), Refused("owner"), Refused("links")])
        self.assertEqual(session.step(), Refused("links"))
        # A text that wants a folder at its end.
        tree = Tree([Folder(0, [("a", 1), ("l", 2)]), Folder(0, [("f", 3)]), Link(0, "a/f/"), File(0)])
        session = self.begun("l", ALL, 0, tree, Others(5, [1]))
        self.assertIsNone(session.step())
        self.assertIsNone(session.step())
        self.assertNotIn(Came(3), session.can())
        self.assertIn(Refused("file"), session.can())
        self.assertEqual(session.step(), Refused("file"))

    def test_in_a_new_folder(self):
        session = self.begun("a/n/x")
        session.do(MakeFolder(1, "n", 5))
        session.step()
        session.step()
        self.assertEqual(session.can(), [Came(2), Came(5)] + NEWS + [Refused("none")])

    def test_results_are_told_once_and_in_order(self):
        session = self.begun("a/x", ALL)
        for name in ("p", "q", "r"):
            session.do(MakeFolder(1, name, 5))
            session.do(MakeFile(1, name + "f", 5))
        self.assertEqual(session.can(), self.begun("a/x", ALL).can())


class BackTest(Checked):
    def test_each_of_them_up_to_the_beginning(self):
        session = Session(sample(), THEIRS)
        seen = [self.seen(session)]
        for call in (lambda: session.begin(0, read_path("a/x"), PLAIN), lambda: session.do(MakeFile(1, "x", 5)),
                     session.step, lambda: session.do(MakeFolder(1, "n", 5)), session.step,
                     lambda: session.do(Take(1, "x")), lambda: session.begin(10, read_path("."), PLAIN), session.step):
            call()
            seen.append(self.seen(session))
        self.assertEqual([one[3] for one in seen], list(range(9)))
        while len(seen) > 1:
            seen.pop()
            self.assertIsNone(session.back())
            self.assertEqual(self.seen(session), seen[-1])
        self.refused(session, NoBack, session.back)

    def test_a_step_that_ended_the_walk(self):
        session = self.begun("a")
        self.assertEqual(session.step(), Came(1))
        session.back()
        self.assertEqual((session.history(), session.can(), session.many()), ([], [Came(1)], 1))
        self.assertEqual((session.step(), session.history()), (Came(1), [Came(1)]))

    def test_a_step_that_followed_a_link(self):
        session = self.begun("l", ALL)
        for _ in range(3):
            session.step()
            session.back()
        self.assertEqual([session.step(), session.step(), session.step()], [None, None, Came(2)])

    def test_back_is_not_undone(self):
        session = self.begun("a")
        session.back()
        self.refused(session, NoBack, session.back)
        self.refused(session, NoBack, session.back)

    def test_something_else_after_back(self):
        session = self.begun("a/x")
        session.step()
        session.do(MakeFile(1, "x", 5))
        session.back()
        session.do(MakeFolder(1, "x", 5))
        self.assertEqual((session.step(), session.many()), (Came(9), 4))
        self.assertEqual(session.now().nodes[9], Folder(5, []))


class ErrorsTest(Checked):
    def test_others_whose_folders_are_none(self):
        for number in NO_NUMBERS + [-1, 99, 10 ** 30, 3, 6, 8]:
            for folders in ([number], [1, number, None], (number, -1)):
                with self.assertRaises(NoNode) as caught:
                    Session(sample(), Others(5, folders))
                self.assertIs(caught.exception.node, number)

    def test_places_that_are_none(self):
        session = Session(sample(), THEIRS)
        for place in NO_NUMBERS + [-1, 9, 10 ** 30, 3, 5, 6]:
            error = self.refused(session, NoNode, lambda: session.begin(place, read_path("a"), PLAIN))
            self.assertIs(error.node, place)
        # The present tree tells.
        session.do(MakeFolder(1, "n", 5))
        session.begin(9, read_path("."), PLAIN)

    def test_busy_comes_first(self):
        session = self.begun()
        for place in (0, 99, None, "a"):
            self.refused(session, Busy, lambda: session.begin(place, read_path("a"), PLAIN))
        session.step()
        self.refused(session, Busy, lambda: session.begin(-1, read_path("a"), PLAIN))

    def test_idle(self):
        session = Session(sample(), THEIRS)
        self.refused(session, Idle, session.step)
        self.refused(session, Idle, session.can)
        session.begin(0, read_path("zz"), PLAIN)
        session.step()
        self.refused(session, Idle, session.step)
        self.refused(session, Idle, session.can)
        session.back()
        session.back()
        self.refused(session, Idle, session.step)

    def test_no_back(self):
        self.refused(Session(sample(), THEIRS), NoBack, Session(sample(), THEIRS).back)


class ListsTest(Checked):
    def test_lists_are_new(self):
        session = self.begun("a")
        for call in (session.can, session.history):
            found = call()
            copied = list(found)
            found.append("more")
            self.assertEqual(call(), copied)
        session.step()
        found = session.history()
        found.clear()
        self.assertEqual(session.history(), [Came(1)])

    def test_what_is_handed_in_stays_as_it_is(self):
        tree, others, folders = sample(), Others(5, [1, 2]), [1, 2]
        session = Session(tree, Others(5, folders))
        folders.append(0)
        session.do(MakeFile(1, "x", 5))
        self.refused(session, Forbidden, lambda: session.do(MakeFile(0, "x", 5)))
        self.assertEqual((tree, others), (sample(), THEIRS))
        self.assertNotEqual(session.now(), tree)
        self.assertEqual(Session(tree, others).now(), tree)

    def test_two_sessions_of_one_tree(self):
        tree, others = sample(), Others(5, [1, 2])
        one, other = Session(tree, others), Session(tree, others)
        one.do(MakeFolder(1, "n", 5))
        one.begin(0, read_path("a"), PLAIN)
        self.assertEqual((other.now(), other.many(), other.history()), (sample(), 0, []))
        self.refused(other, Forbidden, lambda: other.do(MakeFile(9, "x", 5)))
        self.refused(other, Idle, other.step)


class DrawnTest(Checked):
    def call(self, session, name, *asked):
        """What a call returns, in the words of the plain reading, or the name of its error."""
        try:
            found = getattr(session, name)(*asked)
        except (WalkError, Error) as error:
            return str(error) if isinstance(error, Error) else error.__class__.__name__
        if isinstance(session, Session):
            if name == "can":
                return [told(one) for one in found]
            if name == "history":
                return [plain(one) for one in found]
            if name == "step" and found is not None:
                return plain(found)
        return found

    def test_drawn(self):
        rng = generator(131)
        seen = set()
        for _ in range(200):
            tree = draw_tree(rng, rng.randint(1, 7), names="ab", kinds=rng.choice(["dddfg", "ddf", "dddfl"]))
            folders = [number for number, node in enumerate(tree.nodes) if isinstance(node, Folder)]
            others = Others(rng.randrange(2), rng.sample(folders, rng.randint(0, len(folders))))
            session, other = Session(tree, others), PlainSession(tree, others)
            for _ in range(30):
                name = rng.choice(["begin", "step", "step", "do", "do", "do", "do", "can", "back"])
                asked = ()
                if name == "begin":
                    asked = (rng.randrange(-1, len(other.now().nodes) + 1), draw_path(rng, 4, names="ab"),
                             draw_look(rng))
                elif name == "do":
                    asked = (draw_deed(rng, other.now(), names="ab"),)
                elif name == "can" and not self.may_ask(other):
                    continue
                expected = self.call(other, name, *asked)
                self.assertEqual(self.call(session, name, *asked), expected)
                self.assertEqual(self.call(session, "history"), self.call(other, "history"))
                self.assertEqual((session.now(), session.many()), (other.now(), other.many()))
                seen.add((name, expected if isinstance(expected, str) else None))
        self.assertEqual(len(seen), 11)

    def may_ask(self, session):
        """Whether the plain reading can tell what can be: not if links are followed, and there are too many."""
        tree, _, going, _ = session.states[-1]
        if going is None or not going.look.follow:
            return True
        links = [node for node in tree.nodes if isinstance(node, Link)]
        return len(links) <= 2 and not [1 for link in links if len(read_path(link.text).steps) > 2]


if __name__ == "__main__":
    unittest.main()
