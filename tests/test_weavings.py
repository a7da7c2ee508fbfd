"""Points [11] and [12], and accepts of [14]: weavings, and what walks among them lead to."""

import itertools
import unittest
from math import comb

from namewalk.deeds import MakeFile, MakeFolder, MakeLink, Move, Put, Take, trees
from namewalk.errors import NoNode, NoRow, NoWeaving
from namewalk.paths import Path, read_path
from namewalk.trees import File, Folder, Gone, Link, Tree
from namewalk.walking import Came, Look, Refused, walk
from namewalk.weavings import Outcome, accepts, led_by, moments, results, unexplained
from tests.drawn import draw_look, draw_path, draw_row, draw_tree, generator, places
from tests.plain import plain, plain_found, plain_led, plain_results, plain_walk, tuples
from tests.samples import INTERFACE_OBJECTS, NEITHER, NO_NUMBERS

PLAIN = Look(False, False, None)
ALL = Look(True, True, None)

# What is no weaving, whatever the walk; the objects that are no sequences, and sequences with something that is none.
NO_SEQUENCES = [value for value in NEITHER + ["", "00", "ab", 0, 1] if not isinstance(value, (list, tuple))]


def sample():
    """A tree, and a row in whose course a/b is a file, is missing, and is another file."""
    return Tree([Folder(0, [("a", 1), ("q", 3)]), Folder(0, [("b", 2)]), File(0), Folder(0, [("b", 4)]), File(0)])


ROW = [Take(1, "b"), Move(0, "a", 0, "z"), Move(0, "q", 0, "a")]


class LedByTest(unittest.TestCase):
    def led(self, weaving, text="a/b", row=ROW, tree=None, place=0, look=PLAIN):
        return led_by(tree or sample(), row, place, read_path(text), look, weaving)

    def test_good_weavings(self):
        for weaving, result in (((0, 0), Came(2)), ((0, 1), Refused("none")), ((1, 3), Refused("none")),
                                ((2,), Refused("none")), ((3, 3), Came(4)), ((0, 3), Refused("none"))):
            self.assertEqual(self.led(weaving), result)
            self.assertEqual(self.led(list(weaving)), result)

    def test_a_walk_without_deeds(self):
        self.assertEqual(self.led((0, 0), row=[]), Came(2))
        self.assertEqual(self.led((0, 0), row=()), Came(2))
        with self.assertRaises(NoWeaving):
            self.led((0, 1), row=[])

    def test_paths_without_steps(self):
        for text, node in ((".", 1), ("/", 0)):
            self.assertEqual(self.led((), text, place=1), Came(node))
            self.assertEqual(self.led([], text, place=1), Came(node))
            for weaving in ((0,), [3], (0, 0)):
                with self.assertRaises(NoWeaving):
                    self.led(weaving, text)

    def no_weaving(self, weaving, **more):
        with self.subTest(repr(weaving)):
            with self.assertRaises(NoWeaving):
                self.led(weaving, **more)

    def test_too_few(self):
        self.no_weaving(())
        self.no_weaving([])
        self.no_weaving((0,))
        self.no_weaving((3,))

    def test_too_many(self):
        self.no_weaving((0, 0, 0))
        self.no_weaving((3, 3, 3))
        # The walk is refused by its first look.
        self.no_weaving((2, 2))
        self.no_weaving((2, 3))

    def test_descending(self):
        self.no_weaving((1, 0))
        self.no_weaving((3, 2))
        self.no_weaving([1, 0])
        # Descending is wrong also behind the end of the walk, or before it is clear that it is refused.
        self.no_weaving((2, 0))

    def test_out_of_range(self):
        for weaving in ((-1, 0), (0, 4), (4, 4), (0, 10 ** 30), (-10 ** 30, 0), (4,), (-1,), (2, 4)):
            self.no_weaving(weaving)

    def test_no_numbers(self):
        for value in NO_NUMBERS:
            for weaving in ((value, 0), (0, value), [0, value], [value, value], (value,), (2, value), [value]):
                self.no_weaving(weaving)

    def test_true_and_false_are_no_numbers(self):
        self.assertEqual(self.led((0, 1)), Refused("none"))
        self.no_weaving((False, True))
        self.no_weaving((0, True))
        self.no_weaving((False, 0))

    def test_no_sequences(self):
        for value in NO_SEQUENCES + [{0: 0, 1: 0}, {0, 1}, range(2), "01", b"\x00\x00", iter((0, 0)), {}]:
            self.no_weaving(value)
            # Also where the walk has no looks.
            self.no_weaving(value, text=".")

    def test_other_sequences_of_the_right_length(self):
        for value in ([(0, 0)], [[0, 0]], ((0,), (0,)), [[], []], ["0", "0"], (0.0, 0.0), (None, None)):
            self.no_weaving(value)

    def test_the_walk_holds_its_folder(self):
        """Folders in which it stands are moved and taken away, also the place."""
        tree = Tree([Folder(0, [("a", 1)]), Folder(0, [("b", 2)]), Folder(0, [("c", 3)]), File(0)])
        row = [Move(1, "b", 0, "b"), Take(0, "a"), MakeFile(2, "d", 0)]
        self.assertEqual(self.led((0, 0, 0), "a/b/c", row, tree), Came(3))
        self.assertEqual(self.led((0, 0, 3), "a/b/d", row, tree), Came(4))
        self.assertEqual(self.led((0, 1), "a/b", row, tree), Refused("none"))
        self.assertEqual(self.led((3,), "b", row, tree, 1), Refused("none"))
        self.assertEqual(self.led((2, 3), "../b", row, tree, 1), Came(2))
        self.assertEqual(self.led((2,), "..", row, tree, 1), Came(0))
        self.assertEqual(self.led((), ".", row, tree, 1), Came(1))

    def test_a_gone_folder_as_place(self):
        tree = Tree([Folder(0, [("a", 1)]), Folder(0, []), Gone(0, 1)])
        row = [Take(0, "a"), MakeFile(0, "a", 0)]
        self.assertEqual(self.led((1, 1), "../..", row, tree, 2), Came(0))
        self.assertEqual(self.led((0, 1, 2), "../../a", row, tree, 2), Came(3))
        self.assertEqual(self.led((1,), "a", row, tree, 2), Refused("none"))

    def test_up_sees_the_tree_of_its_moment(self):
        tree = Tree([Folder(0, [("a", 1), ("b", 2)]), Folder(0, [("x", 3)]), Folder(0, []), Folder(0, [])])
        row = [Move(1, "x", 2, "x")]
        self.assertEqual(self.led((0, 0, 0), "a/x/..", row, tree), Came(1))
        self.assertEqual(self.led((0, 0, 1), "a/x/..", row, tree), Came(2))

    def test_links_are_followed_within_one_look(self):
        tree = Tree([Folder(0, [("l", 1), ("d", 2)]), Link(0, "d"), Folder(0, [("f", 3)]), File(0)])
        row = [Take(0, "l"), Move(0, "d", 0, "e"), MakeFile(2, "g", 0)]
        self.assertEqual(self.led((0, 0, 0), "l/f", row, tree, 0, ALL), Came(3))
        self.assertEqual(self.led((0, 1, 3), "l/f", row, tree, 0, ALL), Came(3))
        self.assertEqual(self.led((0, 1, 3), "l/g", row, tree, 0, ALL), Came(4))
        self.assertEqual(self.led((0, 2), "l/f", row, tree, 0, ALL), Refused("none"))
        self.assertEqual(self.led((1,), "l/f", row, tree, 0, ALL), Refused("none"))
        self.assertEqual(self.led((0,), "l/f", row, tree, 0, PLAIN), Refused("link"))
        self.no_weaving((0, 0), text="l/f", row=row, tree=tree, look=ALL)
        self.no_weaving((0, 0, 0, 0), text="l/f", row=row, tree=tree, look=ALL)

    def test_owners_are_asked(self):
        tree = Tree([Folder(0, [("a", 1)]), Folder(1, [])])
        row = [Take(0, "a"), MakeFolder(0, "a", 2)]
        look = Look(False, False, [2])
        self.assertEqual(self.led((0,), "a", row, tree, 0, look), Refused("owner"))
        self.assertEqual(self.led((1,), "a", row, tree, 0, look), Refused("none"))
        self.assertEqual(self.led((2,), "a", row, tree, 0, look), Came(2))


class ErrorsTest(unittest.TestCase):
    """NoRow, then NoNode for the first tree, then NoWeaving."""

    def calls(self, tree, deeds, place, weaving=(9,), again=None):
        path = read_path("a/b")
        return [
            lambda: led_by(tree, deeds, place, path, PLAIN, weaving),
            lambda: accepts(tree, deeds, place, path, PLAIN, weaving, again),
            lambda: results(tree, deeds, place, path, PLAIN),
            lambda: moments(tree, deeds, place, path, PLAIN, Came(2)),
            lambda: unexplained(tree, deeds, place, path, PLAIN),
        ]

    def test_no_row_comes_first(self):
        for call in self.calls(sample(), [Take(1, "b"), Take(1, "b"), Take(0, "A")], 99):
            with self.assertRaises(NoRow) as caught:
                call()
            self.assertEqual((caught.exception.index, caught.exception.why), (1, "none"))

    def test_then_no_node(self):
        for place in NO_NUMBERS + [-1, 5, 10 ** 30, 2, 4]:
            for call in self.calls(sample(), ROW, place):
                with self.assertRaises(NoNode) as caught:
                    call()
                self.assertIs(caught.exception.node, place)

    def test_no_node_also_for_absolute_paths_and_paths_without_steps(self):
        for text in ("/a", "/", "."):
            for function, more in ((led_by, [()]), (results, []), (moments, [Came(0)]), (unexplained, []),
                                   (accepts, [(), ()])):
                with self.assertRaises(NoNode):
                    function(sample(), [], 2, read_path(text), PLAIN, *more)

    def test_the_place_is_asked_in_the_first_tree(self):
        """A folder that the row makes is no place; one that it takes away is."""
        row = [MakeFolder(0, "n", 0), Take(0, "n")]
        for call in self.calls(sample(), row, 5):
            with self.assertRaises(NoNode):
                call()
        tree = Tree([Folder(0, [("a", 1)]), Folder(0, [])])
        self.assertEqual([one.result for one in results(tree, [Take(0, "a")], 1, read_path(".."), PLAIN)], [Came(0)])

    def test_then_no_weaving(self):
        for call in self.calls(sample(), ROW, 0)[:2]:
            with self.assertRaises(NoWeaving):
                call()


class OutcomeTest(unittest.TestCase):
    def test_fields(self):
        one = Outcome(Came(1), 3, [0, 0], [1, 2])
        self.assertEqual(vars(one), {"result": Came(1), "count": 3, "first": (0, 0), "last": (1, 2)})
        self.assertIsInstance(one.first, tuple)
        self.assertIsInstance(one.last, tuple)

    def test_later_changes_of_lists_have_no_effect(self):
        first, last = [0], [1]
        one = Outcome(Came(1), 3, first, last)
        first.append(1)
        last.append(1)
        self.assertEqual((one.first, one.last), ((0,), (1,)))

    def test_equality(self):
        ones = [Outcome(Came(1), 3, (0,), (1,)), Outcome(Came(2), 3, (0,), (1,)),
                Outcome(Refused("none"), 3, (0,), (1,)), Outcome(Came(1), 4, (0,), (1,)), Outcome(Came(1), 3, (), (1,)), Outcome(Came(1), 3, (0,), (0,))]
        for i, one in enumerate(ones):
            for j, other in enumerate(ones):
                self.assertIs(one == other, i == j)
                self.assertIs(one != other, i != j)
        self.assertEqual(Outcome(Came(1), 3, [0], [1]), ones[0])
        for other in INTERFACE_OBJECTS + [None, (Came(1), 3, (0,), (1,)), object()]:
            if other.__class__ != Outcome:
                self.assertIs(ones[0] == other, False)
                self.assertIs(other == ones[0], False)


class Tried(unittest.TestCase):
    """Every weaving of small rows is tried one by one."""

    def tried(self, tree, row, place, path, look, many, again_too=False):
        after = trees(tree, row)
        expected = plain_results(after, place, path, look, many)
        found = results(tree, row, place, path, look)
        self.assertIsInstance(found, list)
        self.assertEqual([(plain(one.result), one.count, one.first, one.last) for one in found],
                         sorted([(result, len(ways), min(ways), max(ways)) for result, ways in expected.items()],
                                key=lambda row: row[2]))
        self.assertEqual([one.first for one in found], sorted(one.first for one in found))
        good = {weaving: result for result, ways in expected.items() for weaving in ways}
        whole = [plain_walk(one, place, path, look).result for one in after]
        for weaving, result in good.items():
            self.assertEqual(plain(led_by(tree, row, place, path, look, weaving)), result)
        for one in found:
            times = [number for number, result in enumerate(whole) if result == plain(one.result)]
            self.assertEqual(moments(tree, row, place, path, look, one.result), times)
        self.assertEqual([plain(result) for result in unexplained(tree, row, place, path, look)],
                         [plain(one.result) for one in found if plain(one.result) not in whole])
        return good

    def test_the_sample(self):
        good = self.tried(sample(), ROW, 0, read_path("a/b"), PLAIN, 2)
        self.assertEqual(len(good), 4 + 3 + 1 + 1)
        for weaving in tuples(3, 3):
            if weaving not in good:
                with self.assertRaises(NoWeaving):
                    led_by(sample(), ROW, 0, read_path("a/b"), PLAIN, weaving)

    def test_drawn_rows(self):
        rng = generator(21)
        seen = set()
        for _ in range(400):
            tree = draw_tree(rng, rng.randint(1, 7), kinds="dddlfg")
            row = draw_row(rng, tree, rng.randint(0, 4))
            path, look, place = draw_path(rng, 3), draw_look(rng), rng.choice(places(tree))
            # The texts have up to three steps; walks with more looks than are tried are left out.
            if max(len(one.last) for one in results(tree, row, place, path, look)) <= 6:
                good = self.tried(tree, row, place, path, look, 6)
                seen.update(result[0] if result[0] == "came" else result[1] for result in good.values())
        self.assertEqual(seen, {"came", "none", "owner", "file", "link"})

    def test_drawn_rows_of_moves(self):
        """Rows with results that no moment explains, and rows without."""
        rng = generator(22)
        explained = {True: 0, False: 0}
        tree = Tree([Folder(0, [("a", 1)]), Folder(0, [("a", 2)]), Folder(0, [("b", 3)]), Folder(0, [])])
        for _ in range(200):
            row = draw_row(rng, tree, 6, names="ab", kinds=(Move,))
            path = draw_path(rng, 3, names="ab", up=False, least=2)
            self.tried(tree, row, 0, path, PLAIN, 3)
            explained[unexplained(tree, row, 0, path, PLAIN) == []] += 1
        self.assertGreater(min(explained.values()), 15)

    def test_rings(self):
        """Walks that end with "links", among deeds that break the ring."""
        tree = Tree([Folder(0, [("l", 1), ("m", 2)]), Link(0, "m"), Link(0, "l")])
        row = [Take(0, "m"), MakeFile(0, "m", 0)]
        self.tried(tree, row, 0, read_path("l"), ALL, 9)
        found = results(tree, row, 0, read_path("l"), ALL)
        self.assertEqual([one.result for one in found], [Refused("links"), Refused("none"), Came(3)])
        # The ninth look asks for l, which stays.
        self.assertEqual((found[0].count, found[0].first, found[0].last), (3, (0,) * 9, (0,) * 8 + (2,)))

    def test_paths_without_steps(self):
        for text, node in ((".", 1), ("/", 0)):
            found = results(sample(), ROW, 1, read_path(text), PLAIN)
            self.assertEqual(found, [Outcome(Came(node), 1, (), ())])
            self.assertEqual(moments(sample(), ROW, 1, read_path(text), PLAIN, Came(node)), [0, 1, 2, 3])
            self.assertEqual(unexplained(sample(), ROW, 1, read_path(text), PLAIN), [])

    def test_no_deeds(self):
        found = results(sample(), [], 0, read_path("a/b"), PLAIN)
        self.assertEqual(found, [Outcome(Came(2), 1, (0, 0), (0, 0))])
        self.assertEqual(moments(sample(), (), 0, read_path("a/b"), PLAIN, Came(2)), [0])

    def test_shorter_weavings_are_compared_as_tuples(self):
        """(1,) is greater than (0, 1), and less than (1, 0)."""
        tree = Tree([Folder(0, [("a", 1)]), Folder(0, [])])
        row = [Move(0, "a", 0, "c"), MakeFile(1, "b", 0)]
        found = results(tree, row, 0, read_path("a/b"), PLAIN)
        self.assertEqual(found, [Outcome(Refused("none"), 4, (0, 0), (2,)), Outcome(Came(2), 1, (0, 2), (0, 2))])

    def test_one_weaving_is_the_beginning_of_none_other(self):
        good = self.tried(sample(), ROW, 0, read_path("a/b"), PLAIN, 2)
        for one, other in itertools.permutations(good, 2):
            self.assertNotEqual(one, other[:len(one)])


class MomentsTest(unittest.TestCase):
    def test_moments(self):
        for result, expected in ((Came(2), [0]), (Refused("none"), [1, 2]), (Came(4), [3]), (Came(3), []),
                                 (Refused("file"), []), (Refused("x"), [])):
            self.assertEqual(moments(sample(), ROW, 0, read_path("a/b"), PLAIN, result), expected)

    def test_results_that_no_weaving_has(self):
        self.assertEqual(moments(sample(), ROW, 0, read_path("a"), PLAIN, Came(99)), [])

    def test_a_new_list_each_time(self):
        found = moments(sample(), ROW, 0, read_path("a/b"), PLAIN, Came(2))
        found.append(7)
        self.assertEqual(moments(sample(), ROW, 0, read_path("a/b"), PLAIN, Came(2)), [0])
        for function in (results, unexplained):
            first = function(sample(), ROW, 0, read_path("a/b"), PLAIN)
            copied = list(first)
            first.clear()
            self.assertEqual(function(sample(), ROW, 0, read_path("a/b"), PLAIN), copied)

    def test_unexplained(self):
        tree = Tree([Folder(0, [("a", 1)]), Folder(0, [])])
        row = [Move(0, "a", 0, "c"), MakeFile(1, "b", 0)]
        self.assertEqual(unexplained(tree, row, 0, read_path("a/b"), PLAIN), [Came(2)])
        self.assertEqual(moments(tree, row, 0, read_path("a/b"), PLAIN, Came(2)), [])
        self.assertEqual(unexplained(tree, row[:1], 0, read_path("a/b"), PLAIN), [])

    def test_unexplained_results_have_the_order_of_the_outcomes(self):
        tree = Tree([Folder(0, [("a", 1)]), Folder(0, [])])
        row = [Move(0, "a", 0, "c"), MakeFile(1, "b", 0), Take(1, "b"), MakeFolder(1, "b", 0), Move(1, "b", 1, "z"),
               MakeLink(1, "b", 0, ".")]
        self.assertEqual(unexplained(tree, row, 0, read_path("a/b"), PLAIN), [Came(2), Came(3), Came(4)])
        # The nodes in another order.
        tree = Tree([Folder(0, [("a", 1)]), Folder(0, []), File(0), File(0)])
        row = [Move(0, "a", 0, "c"), Put(1, "b", 3), Take(1, "b"), Put(1, "b", 2)]
        self.assertEqual(unexplained(tree, row, 0, read_path("a/b"), PLAIN), [Came(3), Came(2)])


class AcceptsTest(unittest.TestCase):
    def accepted(self, weaving, again, text="a/b", row=ROW, tree=None, look=PLAIN, place=0):
        return accepts(tree or sample(), row, place, read_path(text), look, weaving, again)

    def test_accepts(self):
        for weaving, again, expected in (
            ((0, 0), (0, 0), True), ((0, 0), (0, 1), False), ((0, 0), (1, 1), False), ((0, 1), (1, 1), True),
            ((0, 1), (1, 2), True), ((0, 1), (1, 3), True), ((0, 1), (2, 2), False), ((0, 2), (3, 3), False),
            ((2,), (2,), True), ((2,), (3,), False), ((3, 3), (3, 3), True),
        ):
            with self.subTest((weaving, again)):
                self.assertIs(self.accepted(weaving, again), expected)
                self.assertIs(self.accepted(list(weaving), list(again)), expected)
                self.assertIs(self.accepted(weaving, list(again)), expected)

    def test_the_node_counts_and_not_its_kind(self):
        """A folder that is taken away is found again by `..`; a file in its place by the same name is another node."""
        tree = Tree([Folder(0, [("a", 1)]), Folder(0, [("b", 2)]), Folder(0, [])])
        row = [Move(1, "b", 0, "b"), Take(0, "a"), MakeFile(0, "a", 0), Take(0, "b")]
        self.assertIs(self.accepted((0,), (1,), "..", row, tree, place=2), False)
        self.assertIs(self.accepted((0,), (0,), "..", row, tree, place=2), True)
        self.assertIs(self.accepted((0,), (3,), "a", row, tree), False)
        self.assertIs(self.accepted((3,), (4,), "a", row, tree), True)
        self.assertIs(self.accepted((1,), (4,), "..", row, tree, place=2), True)

    def test_refused_looks_are_done_again_too(self):
        tree = Tree([Folder(0, [("a", 1), ("f", 3)]), Folder(1, []), File(0), File(0), Link(0, "f")])
        row = [Take(0, "f"), Put(0, "f", 3), Take(0, "f"), Put(0, "f", 2), Take(0, "f"), Put(0, "f", 4)]
        for look, text in ((PLAIN, "f/x"), (Look(False, False, [9]), "f")):
            self.assertIs(self.accepted((0,), (2,), text, row, tree, look), True)
            self.assertIs(self.accepted((0,), (1,), text, row, tree, look), False)
            self.assertIs(self.accepted((0,), (4,), text, row, tree, look), False)
            self.assertIs(self.accepted((0,), (6,), text, row, tree, look), False)
        self.assertIs(self.accepted((1,), (3,), "f", row, tree), True)
        self.assertIs(self.accepted((1,), (4,), "f", row, tree), False)

    def test_looks_go_on_from_where_the_walk_stood(self):
        """The second looks do not walk anew: the folder that was left is asked again."""
        tree = Tree([Folder(0, [("a", 1)]), Folder(0, [("b", 2)]), File(0)])
        row = [Move(0, "a", 0, "c"), Move(0, "c", 0, "a")]
        self.assertIs(self.accepted((0, 0), (0, 1), "a/b", row, tree), True)
        self.assertIs(self.accepted((0, 0), (1, 1), "a/b", row, tree), False)
        self.assertIs(self.accepted((0, 1), (2, 2), "a/b", row, tree), True)

    def test_links(self):
        tree = Tree([Folder(0, [("l", 1), ("d", 3)]), Link(0, "d"), Link(0, "d"), Folder(0, [])])
        row = [Take(0, "l"), Put(0, "l", 2), Move(0, "d", 0, "e")]
        self.assertIs(self.accepted((0, 0), (0, 1), "l", row, tree, ALL), True)
        self.assertIs(self.accepted((0, 0), (2, 2), "l", row, tree, ALL), False)
        self.assertIs(self.accepted((2, 2), (2, 3), "l", row, tree, ALL), False)
        self.assertIs(self.accepted((2, 3), (3, 3), "l", row, tree, ALL), True)

    def test_paths_without_steps(self):
        for text in (".", "/"):
            self.assertIs(self.accepted((), (), text), True)
            self.assertIs(self.accepted([], [], text), True)
            for again in ((0,), [3], None, {}, "", range(0)):
                with self.assertRaises(NoWeaving):
                    self.accepted((), again, text)

    def no_weaving(self, weaving, again):
        with self.subTest((weaving, repr(again))):
            with self.assertRaises(NoWeaving):
                self.accepted(weaving, again)

    def test_the_errors_of_led_by_come_first(self):
        for weaving in ((), (0,), (0, 0, 0), (1, 0), (0, 4), (-1, 0), (0, True), None, "00", {0: 0, 1: 1}):
            self.no_weaving(weaving, (3, 3))
            self.no_weaving(weaving, weaving)

    def test_as_many_numbers(self):
        for again in ((), (1,), (1, 1, 1), [3], [3, 3, 3]):
            self.no_weaving((0, 1), again)
        self.no_weaving((2,), (2, 2))
        self.no_weaving((2,), ())

    def test_not_descending(self):
        self.no_weaving((0, 0), (1, 0))
        self.no_weaving((0, 1), (3, 2))

    def test_not_below_the_last_number(self):
        self.no_weaving((0, 1), (0, 1))
        self.no_weaving((0, 1), (0, 3))
        self.no_weaving((3, 3), (2, 3))
        self.no_weaving((2,), (1,))
        self.no_weaving((0, 0), (-1, 0))

    def test_not_above_the_number_of_deeds(self):
        self.no_weaving((0, 0), (0, 4))
        self.no_weaving((3, 3), (4, 4))
        self.no_weaving((0, 0), (10 ** 30, 10 ** 30))

    def test_no_numbers_and_no_sequences(self):
        for value in NO_NUMBERS:
            self.no_weaving((0, 0), (0, value))
            self.no_weaving((0, 0), [value, 3])
        for value in NO_SEQUENCES + ["00", {0: 0, 1: 1}, {0, 1}, range(2)]:
            self.no_weaving((0, 0), value)
        self.no_weaving((0, 1), (True, True))

    def test_drawn(self):
        rng = generator(23)
        seen = {True: 0, False: 0}
        for _ in range(60):
            tree = draw_tree(rng, rng.randint(2, 6), names="ab", kinds="dddlf")
            row = draw_row(rng, tree, 3, names="ab")
            path, look = draw_path(rng, 2, names="ab"), draw_look(rng)
            after = trees(tree, row)
            for weaving in tuples(4, len(row)):
                going = plain_led(after, 0, path, look, weaving)
                if going is not None:
                    least = weaving[-1] if weaving else 0
                    for again in itertools.combinations_with_replacement(range(least, len(row) + 1), len(weaving)):
                        expected = all(plain_found(after[number], at, step) == node
                                       for number, (at, step, node) in zip(again, going.found))
                        self.assertIs(accepts(tree, row, 0, path, look, weaving, again), expected)
                        seen[expected] += 1
        self.assertGreater(min(seen.values()), 100)


class GreatNumbersTest(unittest.TestCase):
    """Long rows and long paths, whose weavings are counted by other means."""

    def test_a_row_that_does_not_matter(self):
        """Forty deeds elsewhere: all tuples of thirty numbers from 0 to 40 that do not descend."""
        tree = Tree([Folder(0, [("a", 1), ("e", 2)]), Folder(0, []), Folder(0, [])])
        row = [MakeFile(2, "f" + str(k), 0) for k in range(40)]
        path = Path(["a", ".."] * 15, False, True)
        self.assertEqual(results(tree, row, 0, path, PLAIN),
                         [Outcome(Came(0), comb(70, 30), (0,) * 30, (40,) * 30)])

    def test_a_deed_in_the_middle(self):
        """a goes away after 20 deeds: a walk of 30 looks comes to its end if its 29th is before that."""
        tree = Tree([Folder(0, [("a", 1), ("e", 2)]), Folder(0, []), Folder(0, [])])
        row = [MakeFile(2, "f" + str(k), 0) for k in range(19)] + [Move(0, "a", 0, "b")]
        row += [MakeFile(2, "g" + str(k), 0) for k in range(20)]
        path = Path(["a", ".."] * 15, False, True)
        # Looks 0, 2, .. 28 ask for a: the one that comes too late is the last one of the walk.
        came = sum(comb(28 + last, 28) * (41 - last) for last in range(20))
        refused = sum(self.ways_before(look, number) for look in range(0, 30, 2) for number in range(20, 41))
        found = {plain(one.result): one for one in results(tree, row, 0, path, PLAIN)}
        self.assertEqual(found[("came", 0)].count, came)
        self.assertEqual(found[("refused", "none")].count, refused)
        self.assertEqual((found[("came", 0)].first, found[("came", 0)].last), ((0,) * 30, (19,) * 29 + (40,)))
        self.assertEqual((found[("refused", "none")].first, found[("refused", "none")].last),
                         ((0,) * 27 + (0, 20), (40,)))

    def ways_before(self, look, number):
        """How many weavings end with this number at this look, where the look for a before it is below 20."""
        if look == 0:
            return 1
        return sum(comb(look - 2 + last, look - 2) * (number - last + 1) for last in range(20))

    def test_counted_by_dynamic_programming(self):
        """Drawn long rows and paths: the counts by (node, number, looks), without looking at ways."""
        rng = generator(24)
        for _ in range(25):
            tree = draw_tree(rng, 25, names="abc", kinds="dddddf")
            row = draw_row(rng, tree, 40, kinds=(MakeFile, MakeFolder, Move, Put, Take))
            path = draw_path(rng, 30, least=20)
            after = trees(tree, row)
            found = results(tree, row, 0, path, PLAIN)
            self.assertEqual({plain(one.result): one.count for one in found}, self.counted(after, path))
            for one in found:
                for weaving in (one.first, one.last):
                    self.assertEqual(plain_led(after, 0, path, PLAIN, weaving).result, plain(one.result))

    def counted(self, after, path):
        counts = {}
        layer = {(0, 0): 1}
        for index, step in enumerate(path.steps):
            later = {}
            for (at, least), many in layer.items():
                for number in range(least, len(after)):
                    node = plain_found(after[number], at, step)
                    ends = index == len(path.steps) - 1
                    if node is None:
                        result = ("refused", "none")
                    elif isinstance(after[number].nodes[node], File) and (path.folder or not ends):
                        result = ("refused", "file")
                    elif ends:
                        result = ("came", node)
                    else:
                        later[(node, number)] = later.get((node, number), 0) + many
                        continue
                    counts[result] = counts.get(result, 0) + many
            layer = later
        return counts

    def test_many_looks_by_links(self):
        """Eight links with long texts: more looks than the path has steps."""
        text = "/".join(["d", ".."] * 10) + "/."
        tree = Tree([Folder(0, [("d", 1)] + [("l" + str(k), k + 2) for k in range(8)]), Folder(0, [])]
                    + [Link(0, text) for _ in range(8)])
        row = [MakeFile(1, "f" + str(k), 0) for k in range(40)]
        path = Path(["l" + str(k) for k in range(8)], False, True)
        looks = 8 * 21
        self.assertEqual(results(tree, row, 0, path, ALL),
                         [Outcome(Came(0), comb(looks + 40, 40), (0,) * looks, (40,) * looks)])


class ArgumentsTest(unittest.TestCase):
    def test_lists_and_tuples_and_nothing_is_changed(self):
        rng = generator(25)
        for _ in range(40):
            tree = draw_tree(rng, 5, kinds="dddlf")
            row = draw_row(rng, tree, 3)
            copied, path, look = list(row), draw_path(rng, 2), draw_look(rng)
            before = Tree(tree.nodes)
            found = results(tree, row, 0, path, look)
            self.assertEqual(found, results(tree, tuple(row), 0, path, look))
            weaving = list(found[0].last)
            kept = list(weaving)
            again = [len(row)] * len(weaving)
            self.assertIs(accepts(tree, row, 0, path, look, weaving, again),
                          accepts(tree, tuple(row), 0, path, look, tuple(weaving), tuple(again)))
            self.assertEqual(led_by(tree, row, 0, path, look, weaving), found[0].result)
            self.assertEqual(unexplained(tree, row, 0, path, look), unexplained(tree, tuple(row), 0, path, look))
            self.assertEqual((row, tree, weaving, again), (copied, before, kept, [len(row)] * len(weaving)))

    def test_whole_walks_are_weavings(self):
        rng = generator(26)
        for _ in range(60):
            tree = draw_tree(rng, 5, kinds="dddlf")
            row = draw_row(rng, tree, 4)
            path, look = draw_path(rng, 3), draw_look(rng)
            found = [one.result for one in results(tree, row, 0, path, look)]
            for number, one in enumerate(trees(tree, row)):
                result = walk(one, 0, path, look)
                self.assertIn(result, found)
                self.assertIn(number, moments(tree, row, 0, path, look, result))


if __name__ == "__main__":
    unittest.main()
