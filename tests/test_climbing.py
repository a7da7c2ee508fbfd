"""Point [16]: climbs, alone and of all weavings."""

import unittest

from namewalk.climbing import climb, climbs
from namewalk.deeds import MakeFile, MakeFolder, Move, Take, trees
from namewalk.errors import Large, NoNode, NoRow, NoWeaving
from namewalk.paths import read_path
from namewalk.trees import File, Folder, Gone, Link, Tree, entries_of
from namewalk.walking import Came, Look, Refused, walk
from tests.drawn import draw_row, draw_tree, generator, places
from tests.plain import tuples
from tests.samples import NEITHER, NO_NUMBERS

GONE = Refused("gone")


def sample():
    return Tree([
        Folder(0, [("a", 1), ("c", 3), ("f", 4)]),
        Folder(0, [("b", 2)]),
        Folder(0, []),
        Folder(0, []),
        File(0),
        Gone(0, 1),
        Link(0, "a"),
    ])


def plain_climb(row, place, weaving):
    """What a climb finds by a weaving, or None if it does not fit; "gone" where it is refused."""
    at, text = place, ""
    for number in weaving:
        if at == 0 or at == "gone":
            return None
        if isinstance(row[number].nodes[at], Gone):
            at, text = "gone", "gone"
        else:
            at, name = entries_of(row[number], at)[0]
            text = "/" + name + text
    return (text or "/") if at in (0, "gone") else None


def plain(text):
    return "gone" if text == GONE else text


class ClimbTest(unittest.TestCase):
    def test_texts(self):
        self.assertEqual(climb(sample(), [], 2, (0, 0)), "/a/b")
        self.assertEqual(climb(sample(), [], 1, (0,)), "/a")
        self.assertEqual(climb(sample(), [], 3, [0]), "/c")

    def test_the_root_has_no_looks(self):
        self.assertEqual(climb(sample(), [], 0, ()), "/")
        self.assertEqual(climb(sample(), [Take(0, "c")], 0, []), "/")
        self.assertEqual(climbs(sample(), [Take(0, "c")], 0), [("/", 1, True)])
        with self.assertRaises(NoWeaving):
            climb(sample(), [], 0, (0,))

    def test_a_gone_place(self):
        self.assertEqual(climb(sample(), [], 5, (0,)), GONE)
        self.assertEqual(climb(sample(), [Take(0, "c")], 5, (1,)), GONE)
        self.assertEqual(climbs(sample(), [Take(0, "c")], 5), [(GONE, 2, True)])
        for weaving in ((), (0, 0)):
            with self.assertRaises(NoWeaving):
                climb(sample(), [], 5, weaving)

    def test_names_of_different_moments(self):
        row = [Move(1, "b", 0, "z"), Move(0, "a", 0, "q")]
        self.assertEqual(climb(sample(), row, 2, (0, 0)), "/a/b")
        self.assertEqual(climb(sample(), row, 2, (0, 1)), "/a/b")
        self.assertEqual(climb(sample(), row, 2, (0, 2)), "/q/b")
        self.assertEqual(climb(sample(), row, 2, (1,)), "/z")
        self.assertEqual(climb(sample(), row, 2, (2,)), "/z")
        with self.assertRaises(NoWeaving):
            climb(sample(), row, 2, (1, 1))
        self.assertEqual(climbs(sample(), row, 2), [("/a/b", 2, True), ("/q/b", 1, False), ("/z", 2, True)])

    def test_folders_that_are_taken_away_on_the_way(self):
        row = [Move(1, "b", 0, "b"), Take(0, "a"), Take(0, "b")]
        self.assertEqual(climb(sample(), row, 2, (0, 1)), "/a/b")
        self.assertEqual(climb(sample(), row, 2, (0, 2)), GONE)
        self.assertEqual(climb(sample(), row, 2, (2,)), "/b")
        self.assertEqual(climb(sample(), row, 2, (3,)), GONE)
        self.assertEqual(climbs(sample(), row, 2), [("/a/b", 2, True), ("/b", 2, True), (GONE, 3, True)])

    def test_the_third_place_of_refused(self):
        """No whole climb ends so if only a folder on the way is taken away."""
        row = [Move(1, "b", 0, "b"), Take(0, "a")]
        self.assertEqual(climbs(sample(), row, 2), [("/a/b", 2, True), ("/b", 2, True), (GONE, 1, False)])
        self.assertEqual(climbs(sample(), row + [Take(0, "b")], 2)[-1], (GONE, 3, True))

    def test_order(self):
        """Texts as strings are compared, Refused last."""
        row = [Move(0, "c", 0, "_"), Move(0, "_", 0, "-"), Move(0, "-", 1, "c"), Move(1, "c", 0, "a-"),
               Move(0, "a-", 0, "a.x"), Move(0, "a.x", 0, "z"), Take(0, "z")]
        found = [plain(text) for text, _, _ in climbs(sample(), row, 3)]
        self.assertEqual(found, ["/-", "/_", "/a-", "/a.x", "/a/c", "/c", "/z", "gone"])

    def test_a_text_of_more_steps_than_the_tree_is_deep(self):
        """The folders on the way are moved down, one after the other."""
        tree = Tree([Folder(0, [("a", 1), ("b", 2), ("c", 3)]), Folder(0, []), Folder(0, []), Folder(0, [])])
        row = [Move(0, "a", 2, "a"), Move(2, "a", 0, "a"), Move(0, "b", 3, "b"), Move(3, "b", 1, "b")]
        self.assertEqual(climb(tree, row, 1, (1, 3, 3)), "/c/b/a")
        self.assertEqual(climb(tree, row, 1, (1, 4, 4)), "/a/b/a")


class ErrorsTest(unittest.TestCase):
    def no_weaving(self, weaving, place=2):
        with self.subTest(repr(weaving)):
            with self.assertRaises(NoWeaving):
                climb(sample(), [Take(0, "c"), Take(0, "f")], place, weaving)

    def test_no_weaving(self):
        for weaving in ((), (0,), (0, 0, 0), (1, 0), (0, 3), (-1, 0), [2, 1], [], (0, 10 ** 30)):
            self.no_weaving(weaving)
        for value in NO_NUMBERS:
            self.no_weaving((0, value))
        for value in NEITHER + ["", "00", 0, {0: 0, 1: 1}, {0, 1}]:
            self.no_weaving(value)
            if value not in ([], ()):
                self.no_weaving(value, 0)

    def test_no_row_comes_first(self):
        for call in (lambda: climb(sample(), [Take(0, "c"), Take(0, "c")], 99, None),
                     lambda: climbs(sample(), [Take(0, "c"), Take(0, "c")], 99)):
            with self.assertRaises(NoRow) as caught:
                call()
            self.assertEqual((caught.exception.index, caught.exception.why), (1, "none"))

    def test_then_no_node(self):
        row = [MakeFile(1, "f" + str(k), 0) for k in range(40)]
        for place in NO_NUMBERS + [-1, 7, 10 ** 30, 4, 6]:
            for call in (lambda: climb(sample(), row, place, None), lambda: climbs(sample(), row, place)):
                with self.assertRaises(NoNode) as caught:
                    call()
                self.assertIs(caught.exception.node, place)

    def test_the_place_is_asked_in_the_first_tree(self):
        with self.assertRaises(NoNode):
            climbs(sample(), [MakeFolder(0, "n", 0)], 7)

    def test_large(self):
        tree = Tree([Folder(0, [("a", 1), ("f", 4)]), Folder(0, [("a", 2)]), Folder(0, [("a", 3)]), Folder(0, []),
                     File(0)])
        # comb(29 + 3, 3) is 4,960, comb(30 + 3, 3) is 5,456.
        row = [MakeFile(0, "x" + str(k), 0) for k in range(30)]
        self.assertEqual(climbs(tree, row[:29], 3), [("/a/a/a", 4960, True)])
        with self.assertRaises(Large) as caught:
            climbs(tree, row, 3)
        self.assertEqual(caught.exception.count, 5001)
        self.assertEqual(climb(tree, row, 3, (0, 0, 30)), "/a/a/a")

    def test_exactly_as_many_as_are_allowed(self):
        row = [Move(0, "fg"[k % 2], 0, "gf"[k % 2]) for k in range(5000)]
        self.assertEqual(climbs(sample(), row[:4999], 1), [("/a", 5000, True)])
        with self.assertRaises(Large):
            climbs(sample(), row, 1)


class ClimbsTest(unittest.TestCase):
    def tried(self, tree, row, place, looks):
        """Each weaving is tried one by one, and the path of each text where it is one at some moment."""
        after = trees(tree, row)
        counts = {}
        for weaving in tuples(looks, len(row)):
            text = plain_climb(after, place, weaving)
            if text is None and len(weaving) <= 3:
                with self.assertRaises(NoWeaving):
                    climb(tree, row, place, weaving)
            elif text is not None:
                self.assertEqual(plain(climb(tree, row, place, weaving)), text)
                self.assertEqual(plain(climb(tree, tuple(row), place, list(weaving))), text)
                counts[text] = counts.get(text, 0) + 1
        found = climbs(tree, row, place)
        self.assertIsInstance(found, list)
        self.assertTrue(all(isinstance(one, tuple) and isinstance(one[2], bool) for one in found))
        ordered = sorted(text for text in counts if text != "gone") + [text for text in counts if text == "gone"]
        self.assertEqual([(plain(text), many) for text, many, _ in found], [(text, counts[text]) for text in ordered])
        for text, _, at_once in found:
            if text == GONE:
                expected = any(isinstance(one.nodes[place], Gone) for one in after)
            else:
                look = Look(False, False, None)
                expected = any(walk(one, 0, read_path(text), look) == Came(place) for one in after)
            self.assertIs(at_once, expected)
        return found

    def test_drawn_rows(self):
        rng = generator(51)
        seen = {True: 0, False: 0, "gone": 0}
        for _ in range(250):
            tree = draw_tree(rng, rng.randint(2, 6), names="ab", kinds="dddddg")
            row = draw_row(rng, tree, rng.randint(0, 4), names="ab", kinds=(Move, Move, Take, MakeFolder))
            for text, _, at_once in self.tried(tree, row, rng.choice(places(tree)), 6):
                seen["gone" if text == GONE else at_once] += 1
        chain = Tree([Folder(0, [("a", 1)]), Folder(0, [("a", 2)]), Folder(0, [("b", 3)]), Folder(0, [])])
        for _ in range(25):
            row = draw_row(rng, chain, 3, names="ab", kinds=(Move,))
            for text, _, at_once in self.tried(chain, row, rng.choice([2, 3]), 9):
                seen[at_once] += 1
        self.assertGreater(min(seen.values()), 10)

    def test_one_deed_is_not_enough_for_a_text_of_no_moment(self):
        rng = generator(52)
        for _ in range(300):
            tree = draw_tree(rng, rng.randint(2, 7), names="ab", kinds="ddddg")
            row = draw_row(rng, tree, 1, names="ab")
            for text, _, at_once in climbs(tree, row, rng.choice(places(tree))):
                self.assertTrue(at_once or text == GONE)

    def test_two_deeds_are_enough(self):
        tree = Tree([Folder(0, [("p", 1)]), Folder(0, [("x", 2)]), Folder(0, [])])
        found = climbs(tree, [Move(1, "x", 0, "z"), Move(0, "p", 0, "q")], 2)
        self.assertEqual(found, [("/p/x", 2, True), ("/q/x", 1, False), ("/z", 2, True)])

    def test_a_new_list_each_time_and_nothing_is_changed(self):
        tree, row = sample(), [Take(0, "f")]
        first = climbs(tree, row, 2)
        first.clear()
        self.assertEqual(climbs(tree, row, 2), [("/a/b", 3, True)])
        self.assertEqual((tree, row), (sample(), [Take(0, "f")]))


if __name__ == "__main__":
    unittest.main()
