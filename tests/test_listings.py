"""Point [15]: listings, alone and of all weavings."""

import unittest

from namewalk.deeds import MakeFile, MakeFolder, MakeLink, Move, Put, Take, trees
from namewalk.errors import Large, NoNode, NoRow, NoWeaving
from namewalk.listings import listing, listings
from namewalk.trees import File, Folder, Gone, Link, Tree
from tests.drawn import draw_row, draw_tree, generator, places, takes_folders
from tests.plain import tuples
from tests.samples import NEITHER, NO_NUMBERS


def sample():
    return Tree([
        Folder(0, [("a", 1), ("f", 2), ("l", 4), ("z", 5)]),
        Folder(1, [("b", 3), ("c", 6)]),
        File(0),
        File(1),
        Link(0, "a"),
        Folder(0, [("x", 2)]),
        Folder(0, []),
        Gone(0, 1),
    ])


def plain_listing(row, place, weaving):
    """What is met by a weaving through the trees of a row, or None if it does not fit."""
    numbers = list(weaving)
    met, left, at = [], [], place
    while True:
        # Whether a node is a folder, or was one, is the same in all trees that have it.
        node = next(tree.nodes[at] for tree in row if at < len(tree.nodes))
        if isinstance(node, (Folder, Gone)):
            if not numbers:
                return None
            present = row[numbers.pop(0)].nodes[at]
            if isinstance(present, Folder):
                left = [inner for _, inner in present.entries] + left
        if not left:
            return None if numbers else met
        at = left.pop(0)
        met.append(at)


class ListingTest(unittest.TestCase):
    def test_order(self):
        """Entries by ascending names, what is below a folder right behind it; files and links are noted once each."""
        self.assertEqual(listing(sample(), [], 0, (0, 0, 0, 0)), [1, 3, 6, 2, 4, 5, 2])
        self.assertEqual(listing(sample(), [], 1, (0, 0)), [3, 6])
        self.assertEqual(listing(sample(), [], 5, [0]), [2])

    def test_empty_places(self):
        self.assertEqual(listing(sample(), [], 6, (0,)), [])
        self.assertEqual(listing(sample(), [], 7, (0,)), [])
        self.assertEqual(listing(Tree([Folder(0, [])]), [], 0, (0,)), [])
        with self.assertRaises(NoWeaving):
            listing(sample(), [], 6, ())

    def test_names_are_ascending(self):
        tree = Tree([Folder(0, [("b", 1), ("a", 2), ("_", 3), ("0", 4), ("a.", 5)])] + [File(0)] * 5)
        self.assertEqual(listing(tree, [], 0, (0,)), [4, 3, 2, 5, 1])

    def test_a_file_with_several_entries_is_met_at_each(self):
        tree = Tree([Folder(0, [("a", 1), ("b", 1), ("c", 2)]), File(0), Folder(0, [("d", 1)])])
        self.assertEqual(listing(tree, [], 0, (0, 0)), [1, 1, 2, 1])

    def test_links_are_not_followed(self):
        tree = Tree([Folder(0, [("a", 1), ("d", 2)]), Link(0, "d"), Folder(0, [("l", 1)])])
        self.assertEqual(listing(tree, [], 0, (0, 0)), [1, 2, 1])

    def test_entries_are_as_they_were_when_they_were_looked_at(self):
        row = [Take(0, "f"), MakeFile(1, "d", 0), Take(0, "l")]
        self.assertEqual(listing(sample(), row, 0, (0, 3, 3, 3)), [1, 3, 6, 8, 2, 4, 5, 2])
        self.assertEqual(listing(sample(), row, 0, (1, 1, 3, 3)), [1, 3, 6, 4, 5, 2])

    def test_a_gone_folder_is_met_and_looked_at(self):
        row = [Take(1, "c"), Take(1, "b"), Take(0, "a")]
        self.assertEqual(listing(sample(), row, 0, (0, 0, 1, 1)), [1, 3, 6, 2, 4, 5, 2])
        self.assertEqual(listing(sample(), row, 0, (0, 3, 3)), [1, 2, 4, 5, 2])
        self.assertEqual(listing(sample(), row, 1, (3,)), [])
        with self.assertRaises(NoWeaving):
            listing(sample(), row, 0, (0, 3))

    def test_folders_that_are_moved_ahead_are_met_twice(self):
        tree = Tree([Folder(0, [("a", 1), ("c", 2)]), Folder(0, [("x", 3)]), Folder(0, []), File(0)])
        row = [Move(0, "a", 2, "a")]
        self.assertEqual(listing(tree, row, 0, (0, 0, 1, 1)), [1, 3, 2, 1, 3])
        self.assertEqual(listing(tree, row, 0, (0, 1, 1, 1)), [1, 3, 2, 1, 3])
        self.assertEqual(listing(tree, row, 0, (1, 1, 1)), [2, 1, 3])

    def test_folders_that_are_moved_behind_are_not_met(self):
        tree = Tree([Folder(0, [("a", 1), ("c", 2)]), Folder(0, []), Folder(0, [("x", 3)]), Folder(0, [])])
        row = [Move(2, "x", 1, "x")]
        self.assertEqual(listing(tree, row, 0, (0, 0, 1)), [1, 2])
        self.assertEqual(listing(tree, row, 0, (0, 1, 1, 1)), [1, 3, 2])
        self.assertEqual(listing(tree, row, 0, (0, 0, 0, 0)), [1, 2, 3])

    def test_the_place_is_held(self):
        tree = Tree([Folder(0, [("a", 1), ("b", 2)]), Folder(0, [("x", 3)]), Folder(0, []), File(0)])
        row = [Move(0, "a", 2, "a")]
        self.assertEqual(listing(tree, row, 1, (1,)), [3])


class NoWeavingTest(unittest.TestCase):
    def no_weaving(self, weaving, place=1):
        with self.subTest(repr(weaving)):
            with self.assertRaises(NoWeaving):
                listing(sample(), [Take(0, "f"), Take(0, "l")], place, weaving)

    def test_no_weaving(self):
        for weaving in ((), (0,), (0, 0, 0), (1, 0), (0, 3), (-1, 0), (3, 3), (2,), [2, 1], [], (0, 10 ** 30)):
            self.no_weaving(weaving)

    def test_what_is_none(self):
        for value in NO_NUMBERS:
            self.no_weaving((0, value))
            self.no_weaving([value, 2])
        for value in NEITHER + ["", "00", 0, {0: 0, 1: 1}, {0, 1}]:
            self.no_weaving(value)
        self.no_weaving((True, True))
        self.no_weaving((False, 1))


class ErrorsTest(unittest.TestCase):
    def test_no_row_comes_first(self):
        for call in (lambda: listing(sample(), [Take(0, "f"), Take(0, "f")], 99, None),
                     lambda: listings(sample(), [Take(0, "f"), Take(0, "f")], 99)):
            with self.assertRaises(NoRow) as caught:
                call()
            self.assertEqual((caught.exception.index, caught.exception.why), (1, "none"))

    def test_then_no_node(self):
        row = [MakeFile(6, "f" + str(k), 0) for k in range(40)]
        for place in NO_NUMBERS + [-1, 8, 10 ** 30, 2, 3, 4]:
            for call in (lambda: listing(sample(), row, place, None), lambda: listings(sample(), row, place)):
                with self.assertRaises(NoNode) as caught:
                    call()
                self.assertIs(caught.exception.node, place)

    def test_the_place_is_asked_in_the_first_tree(self):
        with self.assertRaises(NoNode):
            listings(sample(), [MakeFolder(0, "n", 0)], 8)
        self.assertEqual(listings(sample(), [Take(1, "c")], 6), [([], 2)])


def rooted(deeds):
    """Two folders with a file each, and a row elsewhere: three looks, so comb(deeds + 3, 3) weavings."""
    tree = Tree([Folder(0, [("a", 1), ("b", 2), ("e", 4)]), Folder(0, [("f", 3)]), Folder(0, [("f", 3)]), File(0),
                 File(0)])
    return tree, [MakeFile(0, "x" + str(k), 0) for k in range(deeds)]


class LargeTest(unittest.TestCase):
    def test_exactly_as_many_as_are_allowed(self):
        """A folder with a row of 4,999 deeds has 5,000 weavings; one deed more is one weaving too many."""
        tree = Tree([Folder(0, [("a", 1), ("f", 2)]), Folder(0, []), File(0)])
        row = [Move(0, "fg"[k % 2], 0, "gf"[k % 2]) for k in range(4999)]
        self.assertEqual(listings(tree, row, 1), [([], 5000)])
        with self.assertRaises(Large) as caught:
            listings(tree, row + [Move(0, "g", 0, "f")], 1)
        self.assertEqual(caught.exception.count, 5001)

    def test_within_the_bounds(self):
        # comb(30 + 3, 3) is 5,456, comb(29 + 3, 3) is 4,960.
        tree, row = rooted(29)
        self.assertEqual(sum(many for _, many in listings(tree, row, 0)), 4960)
        tree, row = rooted(30)
        with self.assertRaises(Large) as caught:
            listings(tree, row, 0)
        self.assertEqual(caught.exception.count, 5001)

    def test_far_too_many(self):
        chain = Tree([Folder(0, [("a", k + 1)]) for k in range(59)] + [Folder(0, [])])
        star = Tree([Folder(0, [("a" + str(k), k + 1) for k in range(59)])] + [Folder(0, [])] * 59)
        row = [MakeFile(59, "f" + str(k), 0) for k in range(40)]
        for tree in (chain, star):
            with self.assertRaises(Large) as caught:
                listings(tree, row, 0)
            self.assertEqual(caught.exception.count, 5001)

    def test_a_single_listing_is_not_large(self):
        tree, row = rooted(40)
        self.assertEqual(listing(tree, row, 0, (0, 0, 40)), [1, 3, 2, 3, 4])


class ListingsTest(unittest.TestCase):
    def tried(self, tree, row, place, looks):
        """Each weaving is tried one by one."""
        after = trees(tree, row)
        expected = {}
        for weaving in tuples(looks, len(row)):
            met = plain_listing(after, place, weaving)
            if met is None:
                with self.assertRaises(NoWeaving):
                    listing(tree, row, place, weaving)
            else:
                self.assertEqual(listing(tree, row, place, weaving), met)
                self.assertEqual(listing(tree, tuple(row), place, list(weaving)), met)
                expected.setdefault(tuple(met), []).append(weaving)
        found = listings(tree, row, place)
        self.assertEqual(found, [(list(met), len(expected[met])) for met in sorted(expected)])
        self.assertEqual(found, sorted(found))
        return found

    def test_the_sample(self):
        row = [Move(0, "a", 5, "a"), Take(0, "f"), MakeFolder(0, "b", 0)]
        found = self.tried(sample(), row, 0, 7)
        self.assertEqual(len(found), 5)

    def test_drawn_rows(self):
        rng = generator(41)
        looks = twice = 0
        for _ in range(250):
            tree = draw_tree(rng, rng.randint(1, 6), names="ab", kinds="dddflg")
            row = draw_row(rng, tree, rng.randint(0, 3), names="ab")
            if self.is_short(tree, row):
                for found, many in self.tried(tree, row, rng.choice(places(tree)), 5):
                    looks += many
                    twice += len(found) > len(set(found))
        self.assertGreater(looks, 500)
        self.assertGreater(twice, 10)

    def is_short(self, tree, row):
        """Whether all listings have so few looks that the tries above find them all."""
        folders = [deed for deed in row if isinstance(deed, (MakeFolder, Move))]
        return sum(isinstance(node, (Folder, Gone)) for node in tree.nodes) + 3 * len(folders) <= 5

    def test_lists_are_new_and_rows_are_tuples(self):
        first = listings(sample(), [Take(0, "f")], 0)
        self.assertIsInstance(first, list)
        self.assertTrue(all(isinstance(pair, tuple) and isinstance(pair[0], list) for pair in first))
        copied = [(list(met), many) for met, many in first]
        first[0][0].append(7)
        first.pop()
        self.assertEqual(listings(sample(), [Take(0, "f")], 0), copied)
        met = listing(sample(), [], 0, (0, 0, 0, 0))
        self.assertIsInstance(met, list)
        met.clear()
        self.assertEqual(len(listing(sample(), [], 0, (0, 0, 0, 0))), 7)

    def test_lists_are_ordered_as_lists(self):
        tree = Tree([Folder(0, [("b", 10)])] + [File(0)] * 10)
        row = [Put(0, "c", 9), Take(0, "b"), Take(0, "c"), Put(0, "a", 2)]
        self.assertEqual(listings(tree, row, 0), [([], 1), ([2], 1), ([9], 1), ([10], 1), ([10, 9], 1)])

    def test_nothing_is_changed(self):
        tree, row = sample(), [Take(0, "f"), Put(0, "g", 2)]
        listings(tree, row, 0)
        listing(tree, row, 0, [0, 0, 0, 0])
        self.assertEqual((tree, row), (sample(), [Take(0, "f"), Put(0, "g", 2)]))


class FactTest(unittest.TestCase):
    """If no folder is moved or taken away, no entry is met twice, and what stays in its entry is met."""

    def test_fact(self):
        rng = generator(42)
        checked = 0
        for _ in range(150):
            tree = draw_tree(rng, rng.randint(3, 6), names="abc", kinds="ddfl")
            row = draw_row(rng, tree, 3, kinds=(MakeFile, MakeFolder, MakeLink, Move, Put, Take))
            if takes_folders(tree, row):
                continue
            after = trees(tree, row)
            stay = [inner for at, name, inner in self.entries(tree)
                    if all((at, name, inner) in self.entries(one) for one in after)]
            try:
                found = listings(tree, row, 0)
            except Large:
                continue
            for met, _ in found:
                checked += 1
                self.assertEqual(set(stay) - set(met), set())
                for number in set(met):
                    ever = {entry for one in after for entry in self.entries(one) if entry[2] == number}
                    self.assertLessEqual(met.count(number), len(ever))
        self.assertGreater(checked, 50)

    def entries(self, tree):
        return [(at, name, inner) for at, node in enumerate(tree.nodes) if isinstance(node, Folder)
                for name, inner in node.entries]


if __name__ == "__main__":
    unittest.main()
