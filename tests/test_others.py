"""Point [17]: others, what they may do, loose nodes, pieces and arrangements."""

import itertools
import unittest

from namewalk.deeds import MakeFile, MakeFolder, MakeLink, Move, Put, Take, done, trees
from namewalk.errors import NoDeed, NoNode, NoOwner
from namewalk.others import Others, arrangements, loose, may, pieces
from namewalk.trees import File, Folder, Gone, Link, NoTree, Tree, above, entries_of
from tests.drawn import draw_deed, draw_tree, generator
from tests.plain_play import plain_may
from tests.samples import INTERFACE_OBJECTS, NO_NUMBERS, NO_OWNERS


def sample():
    """Folders 1, 2 and 6 are theirs below: 2 and 6 stand in others of theirs, 3 is another's in theirs."""
    return Tree([
        Folder(0, [("a", 1), ("f", 4), ("o", 9)]),
        Folder(0, [("b", 2), ("c", 3), ("f", 4), ("g", 5)]),
        Folder(0, [("l", 8)]),
        Folder(0, [("d", 6)]),
        File(0),
        File(5),
        Folder(0, [("e", 7)]),
        Folder(0, []),
        Link(5, "a"),
        Folder(0, [("h", 10)]),
        File(5),
        Gone(5, 1),
        File(5),
    ])


THEIRS = Others(5, [1, 2, 6])


class OthersTest(unittest.TestCase):
    def test_fields(self):
        others = Others(3, [2, 0, 2])
        self.assertEqual((others.owner, others.folders), (3, (2, 0, 2)))
        self.assertIsInstance(others.folders, tuple)
        self.assertEqual(Others(10 ** 30, ()).folders, ())

    def test_later_changes_of_lists_have_no_effect(self):
        folders = [1]
        others = Others(0, folders)
        folders.append(2)
        self.assertEqual(others.folders, (1,))

    def test_no_owner(self):
        for owner in NO_OWNERS:
            with self.subTest(repr(owner)):
                for folders in ([], [1], [None], ["a", -1]):
                    with self.assertRaises(NoOwner) as caught:
                        Others(owner, folders)
                    self.assertIs(caught.exception.owner, owner)

    def test_equality(self):
        ones = [Others(0, []), Others(1, []), Others(0, [0]), Others(0, [0, 1]), Others(0, [1, 0])]
        for i, one in enumerate(ones):
            for j, other in enumerate(ones):
                self.assertIs(one == other, i == j)
                self.assertIs(one != other, i != j)
        self.assertEqual(Others(0, [0, 1]), Others(0, (0, 1)))
        for other in INTERFACE_OBJECTS + [None, (0, ()), object()]:
            if other.__class__ != Others:
                self.assertIs(ones[0] == other, False)
                self.assertIs(other == ones[0], False)

    def calls(self, tree, others):
        return [lambda: may(tree, others, Take(0, "zz")), lambda: loose(tree, others), lambda: pieces(tree, others),
                lambda: arrangements(tree, others)]

    def test_no_node(self):
        for number in NO_NUMBERS + [-1, 13, 10 ** 30, 4, 5, 8, 11, 12]:
            for folders in ([number], [1, number, None], (0, number, 4)):
                for call in self.calls(sample(), Others(5, folders)):
                    with self.assertRaises(NoNode) as caught:
                        call()
                    self.assertIs(caught.exception.node, number)

    def test_no_node_also_if_the_deed_cannot_be_done(self):
        for deed in (Take(0, ""), Take(99, "a"), MakeFile(0, "f", -1)):
            with self.assertRaises(NoNode):
                may(sample(), Others(5, [4]), deed)


class MayTest(unittest.TestCase):
    def may(self, deed, expected, others=THEIRS, tree=None):
        tree = tree or sample()
        with self.subTest(repr(vars(deed))):
            done(tree, deed)
            self.assertIs(may(tree, others, deed), expected)
            twice = Others(others.owner, others.folders * 2)
            self.assertIs(may(tree, twice, deed), expected)

    def test_what_is_made(self):
        for folder, theirs in ((1, True), (2, True), (6, True), (0, False), (3, False), (7, False), (9, False)):
            for owner in (5, 0, 4):
                for deed in (MakeFolder(folder, "n", owner), MakeFile(folder, "n", owner),
                             MakeLink(folder, "n", owner, "..")):
                    self.may(deed, theirs and owner == 5)

    def test_what_is_put(self):
        """A node that is put is owned by them, wherever it stands, also nowhere."""
        for folder, theirs in ((1, True), (2, True), (0, False), (3, False), (9, False)):
            for node, own in ((4, False), (5, True), (8, True), (10, True), (12, True)):
                self.may(Put(folder, "n", node), theirs and own)

    def test_what_is_taken(self):
        self.may(Take(1, "f"), True)
        self.may(Take(1, "g"), True)
        self.may(Take(2, "l"), True)
        self.may(Take(0, "f"), False)
        self.may(Take(9, "h"), False)
        tree = done(sample(), Take(2, "l"))
        self.may(Take(1, "b"), True, tree=tree)
        self.may(Take(1, "b"), False, Others(5, [1]), tree)
        self.may(Take(1, "b"), False, Others(5, [2]), tree)
        # A folder in theirs that is not theirs.
        self.may(Take(6, "e"), False)
        self.may(Take(6, "e"), True, Others(0, [6, 7]))

    def test_what_is_moved(self):
        for deed, expected in (
            (Move(1, "f", 2, "n"), True), (Move(1, "g", 6, "n"), True), (Move(2, "l", 1, "n"), True),
            (Move(1, "f", 0, "n"), False), (Move(0, "f", 1, "n"), False), (Move(1, "f", 3, "n"), False),
            (Move(9, "h", 1, "n"), False),
            # Folders of theirs, and one that is not.
            (Move(1, "b", 6, "n"), True), (Move(1, "c", 2, "n"), False), (Move(6, "e", 1, "n"), False),
            (Move(3, "d", 1, "n"), False), (Move(0, "a", 9, "n"), False),
        ):
            self.may(deed, expected)

    def test_what_is_moved_within_a_folder(self):
        self.may(Move(1, "c", 1, "n"), True)
        self.may(Move(6, "e", 6, "n"), True)
        self.may(Move(1, "b", 1, "n"), True)
        self.may(Move(1, "f", 1, "n"), True)
        self.may(Move(0, "a", 0, "n"), False)
        self.may(Move(3, "d", 3, "n"), False)

    def test_what_cannot_be_done(self):
        for deed in (Take(1, "z"), Take(1, "b"), Take(1, "B"), Take(4, "a"), Take(99, "a"), Move(1, "b", 2, "n"),
                     Move(1, "f", 1, "f"), Move(1, "f", 1, "b"), MakeFile(1, "b", 5), MakeFile(1, "", 5),
                     MakeLink(1, "n", 5, ""), Put(1, "n", 1), Put(1, "n", 99), Put(1, "n", None), Put(1, "b", 5),
                     MakeFolder(11, "n", 5), MakeFolder(True, "n", 5), Take(None, None)):
            with self.assertRaises(NoDeed):
                done(sample(), deed)
            self.assertIs(may(sample(), THEIRS, deed), False)
            self.assertIs(may(sample(), Others(5, [0, 1, 2, 3, 6, 7, 9]), deed), False)

    def test_others_without_folders(self):
        for deed in (Take(1, "f"), MakeFile(1, "n", 5), Put(1, "n", 5), Move(1, "f", 1, "n")):
            self.may(deed, False, Others(5, []))

    def test_drawn(self):
        rng = generator(61)
        seen = {True: 0, False: 0}
        for _ in range(3000):
            tree = draw_tree(rng, rng.randint(2, 7), names="ab")
            folders = [number for number, node in enumerate(tree.nodes) if isinstance(node, Folder)]
            others = Others(rng.randrange(2), rng.sample(folders, rng.randint(1, len(folders))))
            deed = draw_deed(rng, tree, names="ab")
            expected = plain_may(tree, others.owner, others.folders, deed) is not None
            self.assertIs(may(tree, others, deed), expected)
            seen[expected] += 1
        self.assertGreater(min(seen.values()), 200)


class PiecesTest(unittest.TestCase):
    def test_nested_and_separate_folders(self):
        self.assertEqual(loose(sample(), THEIRS), [2, 4, 5, 8])
        self.assertEqual(pieces(sample(), THEIRS), [[0, 1, 3, 6, 7, 9], [2]])
        self.assertEqual(arrangements(sample(), THEIRS), 2 * 3 ** 2)

    def test_a_folder_that_is_given_twice_counts_once(self):
        for folders in ([1, 1, 2, 6], [6, 2, 1], (2, 1, 6, 2, 1, 6)):
            others = Others(5, folders)
            self.assertEqual(loose(sample(), others), [2, 4, 5, 8])
            self.assertEqual(pieces(sample(), others), [[0, 1, 3, 6, 7, 9], [2]])
            self.assertEqual(arrangements(sample(), others), 18)

    def test_no_folders(self):
        others = Others(5, [])
        self.assertEqual(loose(sample(), others), [])
        self.assertEqual(pieces(sample(), others), [[0, 1, 2, 3, 6, 7, 9]])
        self.assertEqual(arrangements(sample(), others), 1)

    def test_the_root(self):
        others = Others(5, [0])
        self.assertEqual(loose(sample(), others), [4])
        self.assertEqual(pieces(sample(), others), [[0, 1, 2, 3, 6, 7, 9]])
        # Its file has another entry; the root is never loose.
        self.assertEqual(arrangements(sample(), others), 1)
        others = Others(5, [0, 1])
        self.assertEqual(loose(sample(), others), [1, 4, 5])
        self.assertEqual(pieces(sample(), others), [[0, 9], [1, 2, 3, 6, 7]])
        self.assertEqual(arrangements(sample(), others), 1 * 2)

    def test_all_folders(self):
        others = Others(5, [0, 1, 2, 3, 6, 7, 9])
        self.assertEqual(loose(sample(), others), [1, 2, 3, 4, 5, 6, 7, 8, 9, 10])
        self.assertEqual(pieces(sample(), others), [[0], [1], [2], [3], [6], [7], [9]])
        # Six folders and three nodes with one entry; the file at 4 has two.
        self.assertEqual(arrangements(sample(), others), 1 * 7 ** 8)

    def test_folders_whose_piece_has_a_lesser_number_than_the_head(self):
        tree = Tree([Folder(0, [("a", 3)]), Folder(0, []), Folder(0, [("c", 1)]), Folder(0, [("b", 2)])])
        others = Others(0, [3, 2])
        self.assertEqual(loose(tree, others), [2])
        self.assertEqual(pieces(tree, others), [[0, 3], [1, 2]])
        self.assertEqual(pieces(tree, Others(0, [0, 3, 2])), [[0], [1, 2], [3]])
        self.assertEqual(pieces(tree, Others(0, [3, 2, 1])), [[0, 3], [1], [2]])

    def test_files_and_links_with_several_entries(self):
        for node in (File(9), Link(9, "a")):
            for entries, many, ways in (([], 0, 1), ([(1, "x")], 1, 2), ([(1, "x"), (2, "y")], 1, 1),
                                        ([(1, "x"), (1, "y")], 1, 1), ([(1, "x"), (0, "y")], 1, 1), ([(0, "x")], 0, 1)):
                inner = {at: [(name, 3) for home, name in entries if home == at] for at in range(3)}
                tree = Tree([Folder(0, [("a", 1), ("b", 2)] + inner[0]), Folder(0, inner[1]), Folder(0, inner[2]),
                             node])
                self.assertEqual(loose(tree, Others(5, [1, 2])), [3] * many)
                self.assertEqual(arrangements(tree, Others(5, [1, 2])), ways)

    def test_owners_do_not_matter(self):
        for owner in (0, 5, 9):
            tree = Tree([Folder(owner, [("a", 1)]), Folder(owner, [("f", 2), ("d", 3)]), File(owner),
                         Folder(owner, [])])
            self.assertEqual(loose(tree, Others(5, [1, 3])), [2, 3])

    def test_many_nodes(self):
        tree = Tree([Folder(0, [("d" + str(k), k) for k in range(1, 60)])] + [Folder(0, [])] * 59)
        self.assertEqual(arrangements(tree, Others(0, range(60))), 60 ** 58)
        self.assertEqual(pieces(tree, Others(0, range(60))), [[k] for k in range(60)])

    def test_new_lists_and_nothing_is_changed(self):
        tree = sample()
        for function in (loose, pieces):
            found = function(tree, THEIRS)
            copied = [list(one) if isinstance(one, list) else one for one in found]
            self.assertIsInstance(found, list)
            if function is pieces:
                self.assertTrue(all(isinstance(one, list) for one in found))
                found[0].clear()
            found.pop()
            self.assertEqual(function(tree, THEIRS), copied)
        may(tree, THEIRS, Take(1, "f"))
        self.assertEqual((tree, THEIRS), (sample(), Others(5, [1, 2, 6])))


class CountedTest(unittest.TestCase):
    """Small trees whose arrangements are counted one by one, and gone through by moves."""

    def counted(self, tree, others):
        """All ways to put the loose nodes that count into folders of theirs, without a folder below itself."""
        theirs = sorted(set(others.folders))
        count = [node for node in loose(tree, others)
                 if isinstance(tree.nodes[node], Folder) or len(entries_of(tree, node)) == 1]
        ways = set()
        for homes in itertools.product(theirs, repeat=len(count)):
            entries = {at: [] for at in range(len(tree.nodes))}
            for at, node in enumerate(tree.nodes):
                if isinstance(node, Folder):
                    entries[at] = [(name, inner) for name, inner in node.entries if inner not in count]
            for node, home in zip(count, homes):
                entries[home].append(("n" + str(node), node))
            nodes = [Folder(node.owner, entries[at]) if isinstance(node, Folder) else node
                     for at, node in enumerate(tree.nodes)]
            try:
                Tree(nodes)
            except NoTree:
                continue
            ways.add(homes)
        return ways, count

    def moved(self, tree, others, count):
        """The homes of the nodes that count in all trees that moves make of this one."""
        names = ["n" + str(node) for node in range(len(tree.nodes))]
        for node in count:
            home, name = entries_of(tree, node)[0]
            tree = done(tree, Move(home, name, home, names[node]))
        seen = {tuple(entries_of(tree, node)[0][0] for node in count)}
        waiting = [tree]
        while waiting:
            present = waiting.pop()
            for node, goal in itertools.product(count, sorted(set(others.folders))):
                deed = Move(entries_of(present, node)[0][0], names[node], goal, names[node])
                if may(present, others, deed):
                    later = done(present, deed)
                    homes = tuple(entries_of(later, one)[0][0] for one in count)
                    if homes not in seen:
                        seen.add(homes)
                        waiting.append(later)
        return seen

    def test_drawn_trees(self):
        rng = generator(62)
        counts = set()
        for _ in range(150):
            tree = draw_tree(rng, rng.randint(1, 7), names="abc", kinds="dddfl")
            folders = [number for number, node in enumerate(tree.nodes) if isinstance(node, Folder)]
            others = Others(0, rng.sample(folders, min(len(folders), rng.randint(0, 4))))
            ways, count = self.counted(tree, others)
            if len(count) <= 5:
                self.assertEqual(arrangements(tree, others), len(ways))
                self.assertEqual(self.moved(tree, others, count), ways)
                counts.add(len(ways))
        self.assertGreater(len(counts), 6)

    def test_pieces_stay(self):
        """Whatever they do, other folders stay in their folders, and pieces stay whole."""
        rng = generator(63)
        for _ in range(100):
            tree = draw_tree(rng, 6, names="ab", kinds="dddf")
            folders = [number for number, node in enumerate(tree.nodes) if isinstance(node, Folder)]
            others = Others(0, rng.sample(folders, min(len(folders), 2)))
            homes = {number: above(tree, number) for number in folders if number not in loose(tree, others)}
            for _ in range(40):
                deed = draw_deed(rng, tree, names="abc")
                if may(tree, others, deed) and not isinstance(deed, (MakeFolder, Take)):
                    tree = done(tree, deed)
            self.assertEqual(homes, {number: above(tree, number) for number in homes})

    def test_a_row_of_theirs(self):
        row = [Move(1, "b", 6, "b"), Move(1, "f", 2, "f"), Move(6, "b", 1, "c2"), Move(2, "f", 1, "f")]
        tree = sample()
        for deed, later in zip(row, trees(tree, row)[1:]):
            self.assertIs(may(tree, THEIRS, deed), True)
            tree = later
            self.assertEqual(pieces(tree, THEIRS), pieces(sample(), THEIRS))


if __name__ == "__main__":
    unittest.main()
