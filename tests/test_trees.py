"""Points [3], [4] and [5]: nodes, trees, NoTree, above, entries_of and alike."""

import itertools
import unittest

from namewalk.errors import NoNode, NoTree
from namewalk.trees import File, Folder, Gone, Link, Tree, above, alike, entries_of
from tests.samples import BAD_NAMES, GOOD_NAMES, INTERFACE_OBJECTS, NO_NUMBERS, NO_OWNERS, NO_STRINGS


def sample():
    """A tree with every kind of node: files and links with no, one and several entries, gone folders in a chain."""
    return Tree([
        Folder(0, [("a", 1), ("f", 2), ("l", 4)]),
        Folder(1, [("b", 3), ("c", 5), ("f", 2), ("g", 2)]),
        File(0),
        File(1),
        Link(0, "a/../x"),
        Folder(2, [("l", 4)]),
        Gone(0, 7),
        Gone(3, 5),
        File(7),
        Link(7, "/"),
    ])


class NodesTest(unittest.TestCase):
    def test_entries_are_kept_by_ascending_names(self):
        given = [("b", 2), ("a", 1), ("a.", 5), ("_", 3), ("-", 4), ("0", 6)]
        expected = (("-", 4), ("0", 6), ("_", 3), ("a", 1), ("a.", 5), ("b", 2))
        for order in itertools.permutations(given):
            self.assertEqual(Folder(0, order).entries, expected)

    def test_entries_as_lists_and_as_tuples_are_kept_as_tuples(self):
        for entries in ([["b", 2], ["a", 1]], (("b", 2), ("a", 1)), [("b", 2), ["a", 1]], (["a", 1], ("b", 2))):
            folder = Folder(0, entries)
            self.assertEqual(folder.entries, (("a", 1), ("b", 2)))
            self.assertIsInstance(folder.entries, tuple)
            self.assertTrue(all(isinstance(entry, tuple) for entry in folder.entries))

    def test_entries_with_equal_names_stay_in_their_order(self):
        self.assertEqual(Folder(0, [("b", 9), ("a", 3), ("b", 1), ("a", 2)]).entries,
                         (("a", 3), ("a", 2), ("b", 9), ("b", 1)))

    def test_entries_stay_in_their_order_if_a_name_is_no_string(self):
        for name in NO_STRINGS:
            entries = Folder(0, [["c", 1], ["b", 2], [name, 3], ["a", 4]]).entries
            self.assertEqual([node for _, node in entries], [1, 2, 3, 4])
            self.assertTrue(all(isinstance(entry, tuple) for entry in entries))

    def test_strings_that_are_no_names_are_sorted_too(self):
        self.assertEqual(Folder(0, [("b", 1), ("", 2), ("B", 3), ("a/", 4)]).entries,
                         (("", 2), ("B", 3), ("a/", 4), ("b", 1)))

    def test_later_changes_of_lists_have_no_effect(self):
        inner = ["a", 1]
        entries = [inner]
        folder = Folder(0, entries)
        nodes = [folder, File(0)]
        tree = Tree(nodes)
        inner[0] = "b"
        entries.append(["c", 1])
        nodes.append(File(0))
        self.assertEqual(folder.entries, (("a", 1),))
        self.assertEqual(tree.nodes, (Folder(0, [("a", 1)]), File(0)))
        self.assertIsInstance(tree.nodes, tuple)

    def test_arguments_are_not_changed(self):
        entries = [["b", 1], ["a", 1]]
        nodes = [Folder(0, entries), File(0)]
        Tree(nodes)
        self.assertEqual(entries, [["b", 1], ["a", 1]])
        self.assertEqual(nodes, [Folder(0, entries), File(0)])

    def test_equality_of_nodes(self):
        makers = [
            lambda: Folder(0, []), lambda: Folder(1, []), lambda: Folder(0, [("a", 1)]), lambda: Folder(0, [("a", 2)]),
            lambda: Folder(0, [("b", 1)]), lambda: Folder(0, [("a", 1), ("b", 1)]), lambda: File(0), lambda: File(1),
            lambda: Link(0, "a"), lambda: Link(1, "a"), lambda: Link(0, "b"), lambda: Link(0, "./a"),
            lambda: Gone(0, 0), lambda: Gone(1, 0), lambda: Gone(0, 1),
        ]
        for (i, one), (j, other) in itertools.product(enumerate(makers), repeat=2):
            self.assertIs(one() == other(), i == j)
            self.assertIs(one() != other(), i != j)
        self.assertEqual(Folder(0, [("b", 2), ("a", 1)]), Folder(0, (["a", 1], ["b", 2])))

    def test_nodes_and_trees_are_never_equal_to_objects_of_other_classes(self):
        ones = [Folder(0, []), File(0), Link(0, "a"), Gone(0, 0), Tree([Folder(0, [])])]
        for one in ones:
            others = [other for other in INTERFACE_OBJECTS + ones if other.__class__ != one.__class__]
            for other in others + [None, 0, "a", (), (0,), (0, ()), [], {"owner": 0}, object()]:
                self.assertIs(one == other, False)
                self.assertIs(other == one, False)
                self.assertIs(one != other, True)

    def test_equality_of_trees(self):
        self.assertTrue(sample() == sample())
        self.assertFalse(sample() != sample())
        self.assertEqual(Tree([Folder(0, [["b", 1], ["a", 1]]), File(0)]),
                         Tree((Folder(0, (("a", 1), ("b", 1))), File(0))))
        for change in range(10):
            nodes = list(sample().nodes)
            nodes[change].owner += 1
            self.assertFalse(Tree(nodes) == sample())
        self.assertFalse(Tree(list(sample().nodes) + [File(0)]) == sample())
        renumbered = Tree([Folder(0, [("a", 2), ("b", 1)]), File(0), File(1)])
        self.assertFalse(renumbered == Tree([Folder(0, [("a", 1), ("b", 2)]), File(1), File(0)]))


class NoTreeTest(unittest.TestCase):
    def refused(self, nodes, why, node):
        with self.assertRaises(NoTree) as caught:
            Tree(nodes)
        self.assertEqual((caught.exception.why, caught.exception.node), (why, node))

    def test_root(self):
        self.refused([], "root", 0)
        self.refused((), "root", 0)
        self.refused([File(0)], "root", 0)
        self.refused([Link(0, "a"), Folder(0, [])], "root", 0)
        self.refused([Gone(0, 1), Folder(0, [])], "root", 0)
        self.refused([File(-1), File(-1)], "root", 0)
        for value in [None, 0, "a", [], {}, Folder]:
            self.refused([value], "root", 0)

    def test_owner(self):
        for owner in NO_OWNERS:
            with self.subTest(repr(owner)):
                self.refused([Folder(owner, [])], "owner", 0)
                for node in (Folder(owner, []), File(owner), Link(owner, "a"), Gone(owner, 0)):
                    entries = [] if isinstance(node, Gone) else [("a", 1)]
                    self.refused([Folder(0, entries), node], "owner", 1)
        for owner in (0, 1, 10 ** 40):
            self.assertEqual(Tree([Folder(owner, [])]).nodes[0].owner, owner)

    def test_what_is_no_node_has_no_owner(self):
        for value in [None, 5, "a", [], {}, Tree([Folder(0, [])])]:
            self.refused([Folder(0, []), value], "owner", 1)
            self.refused([Folder(0, [("a", 1)]), value], "entry", 0)

    def test_name(self):
        for name in BAD_NAMES + NO_STRINGS:
            with self.subTest(repr(name)):
                self.refused([Folder(0, [(name, 1)]), File(0)], "name", 0)
                self.refused([Folder(0, [("a", 1)]), Folder(0, [("b", 2), [name, 2], ("c", 2)]), File(0)], "name", 1)
        for name in GOOD_NAMES:
            self.assertEqual(Tree([Folder(0, [(name, 1)]), File(0)]).nodes[0].entries, ((name, 1),))

    def test_twice(self):
        self.refused([Folder(0, [("a", 1), ("a", 1)]), File(0)], "twice", 0)
        self.refused([Folder(0, [("a", 1), ("b", 1), ("a", 2)]), File(0), File(0)], "twice", 0)
        self.refused([Folder(0, [("a", 1)]), Folder(0, [("a", 2), ("a", 2)]), File(0)], "twice", 1)
        self.assertEqual(len(Tree([Folder(0, [("a", 1)]), Folder(0, [("a", 2)]), File(0)]).nodes), 3)

    def test_entry(self):
        for number in NO_NUMBERS + [-1, -2, 2, 3, 10 ** 30, 0]:
            with self.subTest(repr(number)):
                self.refused([Folder(0, [("a", number)]), File(0)], "entry", 0)
                self.refused([Folder(0, [("a", 1), ("b", number)]), File(0)], "entry", 0)
        self.refused([Folder(0, [("a", 1)]), Gone(0, 0)], "entry", 0)
        self.refused([Folder(0, [("a", 1)]), Folder(0, [("a", 0)])], "entry", 1)
        self.refused([Folder(0, [("a", 1)]), Folder(0, [("a", 2)]), Gone(0, 0)], "entry", 1)

    def test_text(self):
        texts = ["", "A", "a/B", " ", "a b", "abcdefghijklm", "/ /", "a\n"]
        for text in texts + NO_STRINGS:
            with self.subTest(repr(text)):
                self.refused([Folder(0, []), Link(0, text)], "text", 1)
        for text in ("a", "/", ".", "..", "/a//./../b/", "...", "../" * 300):
            self.assertEqual(Tree([Folder(0, []), Link(0, text)]).nodes[1].text, text)

    def test_above(self):
        for value in NO_NUMBERS + [-1, 1, 2, 3, 5, 10 ** 30]:
            with self.subTest(repr(value)):
                self.refused([Folder(0, []), Gone(0, value), File(0), Link(0, "a"), Gone(0, 0)], "above", 1)
        for value in (0, 2, 3):
            tree = Tree([Folder(0, [("a", 2)]), Gone(0, value), Folder(0, []), Gone(0, 0)])
            self.assertEqual(tree.nodes[1].above, value)
        self.assertEqual(len(Tree([Folder(0, []), Gone(0, 2), Gone(0, 1)]).nodes), 3)

    def test_entries(self):
        folder = Folder(0, [])
        self.refused([folder, folder], "entries", 1)
        self.refused([Folder(0, [("a", 1), ("b", 1)]), folder], "entries", 1)
        self.refused([Folder(0, [("a", 1), ("b", 2)]), Folder(0, [("c", 2)]), folder], "entries", 2)
        self.refused([Folder(0, [("a", 2)]), folder, folder, folder], "entries", 1)
        self.refused([Folder(0, [("a", 1)]), Folder(0, [("a", 1)])], "entries", 1)

    def test_loop(self):
        self.refused([Folder(0, []), Folder(0, [("a", 1)])], "loop", 1)
        self.refused([Folder(0, [("a", 1)]), Folder(0, []), Folder(0, [("a", 3)]), Folder(0, [("a", 2)])], "loop", 2)
        self.refused([Folder(0, [("x", 4)]), Folder(0, [("a", 2)]), Folder(0, [("b", 1), ("c", 3)]), Folder(0, []),
                      Folder(0, [])], "loop", 1)

    def test_files_and_links_stand_in_any_number_of_entries(self):
        for count in range(4):
            entries = [("abc"[k], 1) for k in range(count)] + [("xyz"[k], 2) for k in range(count)]
            self.assertEqual(len(Tree([Folder(0, entries), File(0), Link(0, "a")]).nodes), 3)

    def test_first_node_comes_first(self):
        """Each of these is wrong in one way; the one at the lesser number is told."""
        wrong = [
            ("owner", lambda at: File(-1)),
            ("name", lambda at: Folder(0, [("A", at)])),
            ("twice", lambda at: Folder(0, [("a", 5), ("a", 5)])),
            ("entry", lambda at: Folder(0, [("a", 99)])),
            ("text", lambda at: Link(0, "")),
            ("above", lambda at: Gone(0, at)),
        ]
        for (why, one), (_, other) in itertools.product(wrong, repeat=2):
            root = Folder(0, [("f", 5)])
            self.refused([root, File(0), one(2), other(3), Folder(0, []), File(0)], why, 2)
        for why, one in wrong:
            # The folders at 1 and 2 stand in no entry, or are not found.
            self.refused([Folder(0, []), Folder(0, []), Folder(0, [("a", 2)]), one(3), File(0), File(0)], why, 3)

    def test_first_word_comes_first(self):
        file = File(0)
        self.refused([File(-1)], "root", 0)
        self.refused([Folder(-1, [("A", 1)]), file], "owner", 0)
        self.refused([Folder(True, [("a", 9), ("a", 9)]), file], "owner", 0)
        self.refused([Folder(0, [("A", 1), ("A", 1)]), file], "name", 0)
        self.refused([Folder(0, [("a", 1), ("a", 1), ("A", 1)]), file], "name", 0)
        self.refused([Folder(0, [("a", 9), ("B", 1)]), file], "name", 0)
        self.refused([Folder(0, [("a", 9), ("b", 1), ("b", 1)]), file], "twice", 0)
        self.refused([Folder(0, []), Link(-1, "")], "owner", 1)
        self.refused([Folder(0, []), Gone(-1, 1)], "owner", 1)

    def test_entries_come_before_loop(self):
        loop = Folder(0, [("a", 1)])
        self.refused([Folder(0, []), loop, Folder(0, [])], "entries", 2)
        self.refused([Folder(0, []), loop, Folder(0, [("b", 3), ("c", 3)]), Folder(0, [])], "entries", 2)

    def test_entries_and_loop_come_behind_all_other_words(self):
        for first in (Folder(0, []), Folder(0, [("a", 1)])):
            for node, why in ((File(-1), "owner"), (Link(0, ""), "text"), (Gone(0, 2), "above"),
                              (Folder(0, [("A", 1)]), "name"), (Folder(0, [("a", 3), ("a", 3)]), "twice"),
                              (Folder(0, [("a", 0)]), "entry")):
                self.refused([Folder(0, []), first, node, File(0)], why, 2)

    def test_deep_and_large_trees(self):
        deep = [Folder(0, [("a", k + 1)]) for k in range(3000)] + [Folder(0, [])]
        tree = Tree(deep)
        self.assertEqual(above(tree, 3000), 2999)
        self.assertTrue(alike(tree, Tree(deep)))
        self.refused(deep[:-1] + [Folder(0, [("a", 1500)])], "entries", 1500)


class AboveTest(unittest.TestCase):
    def test_above(self):
        expected = [0, 0, None, None, None, 1, 7, 5, None, None]
        self.assertEqual([above(sample(), node) for node in range(10)], expected)
        self.assertIsNone(above(sample(), 8))

    def test_entries_of(self):
        self.assertEqual([entries_of(sample(), node) for node in range(10)], [
            [], [(0, "a")], [(0, "f"), (1, "f"), (1, "g")], [(1, "b")], [(0, "l"), (5, "l")], [(1, "c")],
            [], [], [], [],
        ])

    def test_entries_are_ascending(self):
        tree = Tree([Folder(0, [("z", 1), ("b", 2), ("a", 3)]), Folder(0, [("y", 3), ("c", 3)]),
                     Folder(0, [("a", 3), ("_", 3)]), File(0)])
        self.assertEqual(entries_of(tree, 3), [(0, "a"), (1, "c"), (1, "y"), (2, "_"), (2, "a")])

    def test_returned_lists_are_new_and_hold_tuples(self):
        tree = sample()
        found = entries_of(tree, 2)
        self.assertIsInstance(found, list)
        self.assertTrue(all(isinstance(pair, tuple) for pair in found))
        found.clear()
        self.assertEqual(len(entries_of(tree, 2)), 3)
        self.assertEqual(tree, sample())

    def test_no_node(self):
        for value in NO_NUMBERS + [-1, -10, 10, 11, 10 ** 30]:
            for function in (above, entries_of):
                with self.subTest(repr(value)):
                    with self.assertRaises(NoNode) as caught:
                        function(sample(), value)
                    self.assertIs(caught.exception.node, value)


def found_nodes(tree):
    found = [0]
    for number in found:
        if isinstance(tree.nodes[number], Folder):
            found.extend({node for _, node in tree.nodes[number].entries} - set(found))
    return found


def renumbered(node, numbers):
    if isinstance(node, Folder):
        return Folder(node.owner, [(name, numbers[inner]) for name, inner in node.entries])
    return node


def alike_by_trying(one, other):
    """Point [5] word by word: try all renumberings of the nodes that are found."""
    ones, others = found_nodes(one), found_nodes(other)
    if len(ones) != len(others):
        return False
    for order in itertools.permutations(others[1:]):
        numbers = dict(zip(ones, [0] + list(order)))
        if all(renumbered(one.nodes[number], numbers) == other.nodes[numbers[number]] for number in ones):
            return True
    return False


def small_trees():
    """Trees of a root, a folder and three nodes below them, which differ a little each."""
    trees = []
    thirds = [File(0), File(1), Link(0, "a"), Folder(0, [])]
    places = [[(0, "b", 2), (1, "c", 3)], [(0, "b", 3), (1, "c", 2)], [(1, "b", 2), (1, "c", 3)],
              [(1, "b", 2), (1, "c", 2)], [(0, "b", 2)], [(1, "b", 3), (0, "d", 3)], []]
    for third, entries, owner in itertools.product(thirds, places, (0, 1)):
        inner = [(name, node) for folder, name, node in entries if folder == 1]
        outer = [(name, node) for folder, name, node in entries if folder == 0]
        try:
            trees.append(Tree([Folder(0, outer + [("a", 1)]), Folder(owner, inner), third, File(0)]))
        except NoTree:
            continue
    return trees


class AlikeTest(unittest.TestCase):
    def agreed(self, one, other, expected):
        self.assertIs(alike(one, other), expected)
        self.assertIs(alike(other, one), expected)

    def test_renumbered_trees(self):
        one = Tree([Folder(0, [("a", 1), ("b", 2), ("c", 3), ("d", 4)]), Folder(1, [("x", 5)]), File(2), Link(3, "a"),
                    File(2), File(6)])
        for order in itertools.permutations(range(1, 6)):
            numbers = dict(zip(range(6), (0,) + order))
            nodes = [None] * 6
            for number, node in enumerate(one.nodes):
                nodes[numbers[number]] = renumbered(node, numbers)
            self.agreed(one, Tree(nodes), True)

    def test_the_same_tree(self):
        self.agreed(sample(), sample(), True)
        self.agreed(Tree([Folder(0, [])]), Tree([Folder(0, [])]), True)

    def test_nodes_that_are_not_found_do_not_count(self):
        one = Tree([Folder(0, [("a", 1)]), File(0)])
        other = Tree([Folder(0, [("a", 4)]), File(9), Link(3, "x"), Gone(0, 0), File(0), Gone(1, 3)])
        self.agreed(one, other, True)
        self.agreed(Tree([Folder(0, [])]), Tree([Folder(0, []), File(0), Gone(0, 0)]), True)

    def test_changes(self):
        def tree(owner=0, top=0, file=2, link=3, text="a", name="b", third=False, kind=File):
            entries = [(name, 2), ("l", 3)] + ([("m", 4)] if third else [])
            return Tree([Folder(top, [("a", 1)]), Folder(owner, entries), kind(file), Link(link, text), File(0)])
        self.agreed(tree(), tree(), True)
        for change in ({"owner": 1}, {"top": 1}, {"file": 1}, {"link": 0}, {"text": "b"}, {"text": "./a"},
                       {"name": "c"}, {"third": True}, {"kind": lambda owner: Folder(owner, [])},
                       {"kind": lambda owner: Link(owner, "a")}):
            with self.subTest(change):
                self.agreed(tree(), tree(**change), False)

    def test_one_entry_more_at_the_end_and_at_the_beginning(self):
        one = Tree([Folder(0, [("b", 1)]), File(0)])
        self.agreed(one, Tree([Folder(0, [("b", 1), ("c", 1)]), File(0)]), False)
        self.agreed(one, Tree([Folder(0, [("a", 1), ("b", 1)]), File(0)]), False)
        self.agreed(one, Tree([Folder(0, [("b", 1), ("c", 2)]), File(0), File(0)]), False)
        self.agreed(one, Tree([Folder(0, [])]), False)

    def test_a_file_with_two_entries_is_not_two_files(self):
        for node in (File(0), Link(0, "a")):
            shared = Tree([Folder(0, [("a", 1), ("b", 1)]), node, node])
            apart = Tree([Folder(0, [("a", 1), ("b", 2)]), node, node])
            self.agreed(shared, apart, False)
            self.agreed(apart, Tree([Folder(0, [("a", 2), ("b", 1)]), node, node]), True)
            self.agreed(shared, Tree([Folder(0, [("a", 2), ("b", 2)]), node, node]), True)

    def test_shared_files_in_other_folders(self):
        one = Tree([Folder(0, [("a", 1), ("b", 2)]), Folder(0, [("x", 3), ("y", 4)]), Folder(0, [("x", 3), ("y", 4)]),
                    File(0), File(0)])
        crossed = Tree([Folder(0, [("a", 1), ("b", 2)]), Folder(0, [("x", 3), ("y", 4)]),
                        Folder(0, [("x", 4), ("y", 3)]), File(0), File(0)])
        self.agreed(one, crossed, False)
        self.agreed(one, one, True)

    def test_all_pairs_of_small_trees(self):
        trees = small_trees()
        self.assertGreater(len(trees), 40)
        for one, other in itertools.product(trees, repeat=2):
            self.assertIs(alike(one, other), alike_by_trying(one, other))

    def test_trees_stay_as_they_are(self):
        one, other = sample(), sample()
        alike(one, other)
        self.assertEqual((one, other), (sample(), sample()))


if __name__ == "__main__":
    unittest.main()
