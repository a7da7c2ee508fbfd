"""The facts of points [13] and [14], on drawn small trees and rows."""

import itertools
import unittest

from namewalk.deeds import MakeFile, MakeFolder, MakeLink, Move, Put, Take, trees
from namewalk.paths import Path, read_path
from namewalk.trees import File, Folder, Tree
from namewalk.walking import Came, Look
from namewalk.weavings import accepts, led_by, results, unexplained
from tests.drawn import draw_path, draw_row, draw_tree, generator, places, takes_folders
from tests.plain import plain, plain_led, tuples

LOOKS = [Look(False, False, None), Look(False, True, None), Look(False, False, [0]), Look(False, False, [1])]


def chain():
    return Tree([Folder(0, [("a", 1)]), Folder(0, [("a", 2)]), Folder(1, [("b", 3)]), Folder(0, [])])


def remakes(tree, row):
    """Whether an entry that a deed took away, or moved from, is made again with the same node."""
    removed = []
    after = trees(tree, row)
    for before, later in zip(after, after[1:]):
        was, is_now = entries(before), entries(later)
        if [entry for entry in is_now if entry not in was and entry in removed]:
            return True
        removed.extend(entry for entry in was if entry not in is_now)
    return False


def entries(tree):
    return [(at, name, inner) for at, node in enumerate(tree.nodes) if isinstance(node, Folder)
            for name, inner in node.entries]


def ladder(many):
    """A tree, and a row of 2 * (many - 1) deeds, for a walk along a/a/../a of many looks.

    Each folder leaves the way after its look, before the next one comes to stand in it.
    """
    nodes = [Folder(0, [("a", 1)] + [("p" + str(k), k) for k in range(2, many)])]
    tree = Tree(nodes + [Folder(0, []) for _ in range(1, many)])
    row = []
    for k in range(1, many):
        row.append(Move(k - 1, "a", 0, "q" + str(k)))
        row.append(Move(0, "p" + str(k + 1), k, "a") if k < many - 1 else MakeFile(k, "a", 0))
    return tree, row


class ExplainedTest(unittest.TestCase):
    def test_one_deed_explains_every_result(self):
        rng = generator(31)
        for _ in range(600):
            tree = draw_tree(rng, rng.randint(1, 8), kinds="dddlfg")
            row = draw_row(rng, tree, 1)
            path, place = draw_path(rng, 5, up=False), rng.choice(places(tree))
            for look in LOOKS:
                self.assertEqual(unexplained(tree, row, place, path, look), [])

    def test_rows_that_move_no_folder_explain_every_result(self):
        rng = generator(32)
        some = (MakeFile, MakeFolder, MakeLink, Put, Take)
        for _ in range(400):
            tree = draw_tree(rng, rng.randint(2, 7), names="ab", kinds="dddlfg")
            row = draw_row(rng, tree, 8, names="ab", kinds=some if rng.random() < 0.5 else some + (Move,))
            if not takes_folders(tree, row, (Move,)):
                path, place = draw_path(rng, 4, names="ab", up=False), rng.choice(places(tree))
                for look in LOOKS:
                    self.assertEqual(unexplained(tree, row, place, path, look), [])

    def test_moves_of_folders_need_not_be_explained(self):
        rng = generator(33)
        found = 0
        for _ in range(200):
            row = draw_row(rng, chain(), 6, names="ab", kinds=(Move,))
            found += unexplained(chain(), row, 0, draw_path(rng, 3, names="ab", up=False, least=2), LOOKS[0]) != []
        self.assertGreater(found, 10)

    def test_as_many_different_numbers_as_looks(self):
        for many in range(2, 8):
            tree, row = ladder(many)
            self.assertEqual(len(row), 2 * (many - 1))
            path = Path(["a"] * many, False, False)
            found = {plain(one.result): one for one in results(tree, row, 0, path, LOOKS[0])}
            outcome = found[("came", len(tree.nodes))]
            self.assertEqual(outcome.first, tuple(range(0, 2 * many, 2)))
            self.assertEqual((outcome.count, outcome.last), (1, outcome.first))
            self.assertEqual(unexplained(tree, row, 0, path, LOOKS[0]).count(Came(len(tree.nodes))), 1)

    def test_fewer_deeds_are_not_enough(self):
        """With fewer than 2 * (k - 1) deeds each result of k looks has a weaving with fewer than k numbers."""
        rng = generator(34)
        for many, deeds in ((2, 1), (3, 3), (4, 5)):
            tree, row = ladder(many)
            rows = [row[:-1], row[1:]] if many == 2 else [row[:-1]]
            rows += [draw_row(rng, tree, deeds, names="ap", kinds=(Move, MakeFile, Take)) for _ in range(60)]
            rows += [draw_row(rng, chain(), deeds, names="ab", kinds=(Move,)) for _ in range(60)]
            for number, chosen in enumerate(rows):
                begun = chain() if number >= len(rows) - 60 else tree
                path = Path(["a"] * many, False, False)
                least = {}
                after = trees(begun, chosen)
                for weaving in itertools.combinations_with_replacement(range(len(after)), many):
                    going = plain_led(after, 0, path, LOOKS[0], weaving)
                    if going is not None:
                        different = len(set(weaving))
                        least[going.result] = min(different, least.get(going.result, different))
                self.assertTrue(all(different < many for different in least.values()))


class CarefulTest(unittest.TestCase):
    def accepted(self, tree, row, path, look):
        """All results of weavings that some second looks accept."""
        found = []
        for weaving in tuples(len(path.steps), len(row)):
            if plain_led(trees(tree, row), 0, path, look, weaving) is not None:
                least = weaving[-1] if weaving else 0
                for again in itertools.combinations_with_replacement(range(least, len(row) + 1), len(weaving)):
                    if accepts(tree, row, 0, path, look, weaving, again):
                        found.append(led_by(tree, row, 0, path, look, weaving))
                        break
        return found

    def test_accepted_results_are_explained(self):
        rng = generator(35)
        cases = [(tree, row, Path(["a"] * many, False, False)) for many in (2, 3) for tree, row in [ladder(many)]]
        for _ in range(200):
            row = draw_row(rng, chain(), rng.randint(2, 5), names="ab", kinds=(Move, MakeFile))
            cases.append((chain(), row, draw_path(rng, 2, names="ab", up=False, least=2)))
        refused = 0
        for tree, row, path in cases:
            if not remakes(tree, row):
                bad = unexplained(tree, row, 0, path, LOOKS[0])
                self.assertFalse([one for one in self.accepted(tree, row, path, LOOKS[0]) if one in bad])
                refused += len(bad)
        self.assertGreater(refused, 3)

    def test_entries_that_are_made_again(self):
        """a is back with the same folder when it is looked at again, but never when b stands in it."""
        tree = Tree([Folder(0, [("a", 1)]), Folder(0, []), File(0)])
        row = [Move(0, "a", 0, "c"), Put(1, "b", 2), Take(1, "b"), Move(0, "c", 0, "a"), Move(0, "a", 0, "c"),
               Put(1, "b", 2)]
        path = read_path("a/b")
        self.assertTrue(remakes(tree, row))
        self.assertEqual(unexplained(tree, row, 0, path, LOOKS[0]), [Came(2)])
        self.assertEqual(led_by(tree, row, 0, path, LOOKS[0], (0, 2)), Came(2))
        self.assertIs(accepts(tree, row, 0, path, LOOKS[0], (0, 2), (4, 6)), True)


if __name__ == "__main__":
    unittest.main()
