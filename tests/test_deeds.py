"""Points [9] and [10]: deeds, done with NoDeed, trees with NoRow."""

import itertools
import unittest

from namewalk.deeds import MakeFile, MakeFolder, MakeLink, Move, Put, Take, done, trees
from namewalk.errors import NoDeed, NoRow
from namewalk.trees import File, Folder, Gone, Link, Tree, above, entries_of
from tests.drawn import draw_deed, draw_row, draw_tree, generator
from tests.samples import BAD_NAMES, GOOD_NAMES, INTERFACE_OBJECTS, NO_NUMBERS, NO_OWNERS, NO_STRINGS


def sample():
    return Tree([
        Folder(0, [("a", 1), ("f", 2), ("l", 4)]),
        Folder(1, [("b", 3), ("f", 2)]),
        File(7),
        Folder(2, [("c", 5)]),
        Link(3, "a"),
        Folder(4, []),
        Gone(5, 3),
        File(6),
    ])


def changed(**nodes):
    """The sample with other nodes: n3=Folder(..) and the like, and those behind the last one."""
    new = list(sample().nodes)
    for key, node in nodes.items():
        number = int(key[1:])
        new[number:number + 1] = [node]
    return Tree(new)


class FieldsTest(unittest.TestCase):
    def each(self):
        return [MakeFolder(1, "a", 2), MakeFile(1, "a", 2), MakeLink(1, "a", 2, "b"), Put(1, "a", 2), Take(1, "a"),
                Move(1, "a", 2, "b")]

    def test_fields(self):
        self.assertEqual([vars(one) for one in self.each()], [
            {"folder": 1, "name": "a", "owner": 2}, {"folder": 1, "name": "a", "owner": 2},
            {"folder": 1, "name": "a", "owner": 2, "text": "b"}, {"folder": 1, "name": "a", "node": 2},
            {"folder": 1, "name": "a"}, {"folder": 1, "name": "a", "goal": 2, "other": "b"},
        ])

    def test_equality(self):
        changes = {"folder": 9, "name": "z", "owner": 9, "text": "z", "node": 9, "goal": 9, "other": "z"}
        for i, one in enumerate(self.each()):
            for j, other in enumerate(self.each()):
                self.assertIs(one == other, i == j)
                self.assertIs(one != other, i != j)
            for field in vars(one):
                other = self.each()[i]
                setattr(other, field, changes[field])
                self.assertFalse(one == other)
                self.assertFalse(other == one)
            for other in INTERFACE_OBJECTS + [None, 0, "a", (1, "a", 2), vars(one), object()]:
                if other.__class__ != one.__class__:
                    self.assertIs(one == other, False)
                    self.assertIs(other == one, False)

    def test_wrong_deeds_can_be_created(self):
        for value in NO_NUMBERS + [-1]:
            self.assertIs(MakeFile(value, value, value).folder, value)
            self.assertIs(Move(value, value, value, value).other, value)


class DoneTest(unittest.TestCase):
    def does(self, deed, expected, tree=None):
        tree = tree or sample()
        before = Tree(tree.nodes)
        self.assertEqual(done(tree, deed), expected)
        self.assertEqual(tree, before)

    def test_make_folder(self):
        self.does(MakeFolder(5, "n", 8), changed(n5=Folder(4, [("n", 8)]), n8=Folder(8, [])))
        self.does(MakeFolder(0, "b", 0), changed(n0=Folder(0, [("a", 1), ("b", 8), ("f", 2), ("l", 4)]),
                                                 n8=Folder(0, [])))

    def test_make_file(self):
        self.does(MakeFile(1, "a", 10 ** 20), changed(n1=Folder(1, [("a", 8), ("b", 3), ("f", 2)]),
                                                      n8=File(10 ** 20)))

    def test_make_link(self):
        for text in ("a", "/", "..//.", "/a/./b/"):
            self.does(MakeLink(3, "z", 1, text), changed(n3=Folder(2, [("c", 5), ("z", 8)]), n8=Link(1, text)))

    def test_put(self):
        self.does(Put(5, "x", 2), changed(n5=Folder(4, [("x", 2)])))
        self.does(Put(0, "x", 4), changed(n0=Folder(0, [("a", 1), ("f", 2), ("l", 4), ("x", 4)])))
        self.does(Put(5, "x", 7), changed(n5=Folder(4, [("x", 7)])))

    def test_take_files_and_links(self):
        self.does(Take(1, "f"), changed(n1=Folder(1, [("b", 3)])))
        self.does(Take(0, "f"), changed(n0=Folder(0, [("a", 1), ("l", 4)])))
        self.does(Take(0, "l"), changed(n0=Folder(0, [("a", 1), ("f", 2)])))

    def test_a_file_with_several_entries(self):
        tree = done(sample(), Put(5, "g", 2))
        self.assertEqual(entries_of(tree, 2), [(0, "f"), (1, "f"), (5, "g")])
        tree = done(tree, Take(0, "f"))
        self.assertEqual(entries_of(tree, 2), [(1, "f"), (5, "g")])
        tree = done(done(tree, Take(1, "f")), Take(5, "g"))
        self.assertEqual(entries_of(tree, 2), [])
        self.assertEqual(tree.nodes[2], File(7))
        self.assertEqual(entries_of(done(tree, Put(1, "h", 2)), 2), [(1, "h")])

    def test_take_folders(self):
        self.does(Take(3, "c"), changed(n3=Folder(2, []), n5=Gone(4, 3)))

    def test_above_of_gone_folders_behind_further_deeds(self):
        row = [Take(3, "c"), Move(1, "b", 0, "b"), Take(0, "b"), MakeFolder(0, "b", 1), Take(1, "f"), Take(0, "a")]
        after = trees(sample(), row)
        self.assertEqual([above(tree, 5) for tree in after], [3] * 7)
        self.assertEqual([above(tree, 3) for tree in after], [1, 1, 0, 0, 0, 0, 0])
        self.assertEqual([above(tree, 1) for tree in after], [0] * 7)
        self.assertEqual(after[-1].nodes[1:7:2], (Gone(1, 0), Gone(2, 0), Gone(4, 3)))

    def test_move(self):
        self.does(Move(1, "b", 0, "z"), changed(n0=Folder(0, [("a", 1), ("f", 2), ("l", 4), ("z", 3)]),
                                                n1=Folder(1, [("f", 2)])))
        self.does(Move(0, "l", 5, "l"), changed(n0=Folder(0, [("a", 1), ("f", 2)]), n5=Folder(4, [("l", 4)])))
        self.does(Move(0, "f", 3, "f"), changed(n0=Folder(0, [("a", 1), ("l", 4)]),
                                                n3=Folder(2, [("c", 5), ("f", 2)])))

    def test_move_within_a_folder(self):
        self.does(Move(0, "a", 0, "z"), changed(n0=Folder(0, [("f", 2), ("l", 4), ("z", 1)])))
        self.does(Move(1, "f", 1, "a"), changed(n1=Folder(1, [("a", 2), ("b", 3)])))

    def test_a_move_of_a_file_leaves_its_other_entries(self):
        self.assertEqual(entries_of(done(sample(), Move(1, "f", 5, "g")), 2), [(0, "f"), (5, "g")])

    def test_new_nodes_have_the_next_number(self):
        tree = sample()
        for count in range(5):
            tree = done(tree, MakeFile(5, "abcde"[count], count))
            self.assertEqual(len(tree.nodes), 9 + count)
            self.assertEqual(entries_of(tree, 8 + count), [(5, "abcde"[count])])
        # Also if nodes before it are gone.
        tree = done(done(sample(), Take(3, "c")), MakeFolder(3, "c", 0))
        self.assertEqual(entries_of(tree, 8), [(3, "c")])

    def test_every_good_name(self):
        for name in GOOD_NAMES:
            self.assertEqual(entries_of(done(sample(), MakeFile(5, name, 0)), 8), [(5, name)])
            self.assertEqual(entries_of(done(sample(), Move(3, "c", 1, name)), 5), [(1, name)])

    def test_unknown_nodes_stay(self):
        self.assertEqual(done(sample(), MakeFile(5, "a", 0)).nodes[6:8], (Gone(5, 3), File(6)))


class NoDeedTest(unittest.TestCase):
    def refused(self, deed, why, tree=None):
        tree = tree or sample()
        before = Tree(tree.nodes)
        with self.subTest(repr(vars(deed))):
            with self.assertRaises(NoDeed) as caught:
                done(tree, deed)
            self.assertEqual(caught.exception.why, why)
            self.assertEqual(tree, before)

    def test_folder(self):
        for number in NO_NUMBERS + [-1, -8, 8, 10 ** 30, 2, 4, 6, 7]:
            for deed in (MakeFolder(number, "z", 0), MakeFile(number, "z", 0), MakeLink(number, "z", 0, "a"),
                         Put(number, "z", 2), Take(number, "a"), Move(number, "a", 0, "z"),
                         Move(0, "f", number, "z")):
                self.refused(deed, "folder")

    def test_name(self):
        for name in BAD_NAMES + NO_STRINGS:
            for deed in (MakeFolder(0, name, 0), MakeFile(0, name, 0), MakeLink(0, name, 0, "a"), Put(0, name, 2),
                         Take(0, name), Move(0, name, 1, "z"), Move(0, "a", 0, name)):
                self.refused(deed, "name")

    def test_owner(self):
        for owner in NO_OWNERS:
            for deed in (MakeFolder(0, "z", owner), MakeFile(0, "z", owner), MakeLink(0, "z", owner, "a")):
                self.refused(deed, "owner")

    def test_text(self):
        for text in NO_STRINGS + ["", "A", "a/B", "a b", "abcdefghijklm", "/ "]:
            self.refused(MakeLink(0, "z", 0, text), "text")

    def test_none(self):
        for name in ("z", "aa", "..."):
            self.refused(Take(0, name), "none")
            self.refused(Move(0, name, 1, "z"), "none")
        self.refused(Take(5, "a"), "none")
        for node in NO_NUMBERS + [-1, -6, 8, 10 ** 30, 0, 1, 3, 5, 6]:
            self.refused(Put(0, "z", node), "none")

    def test_taken(self):
        for name in ("a", "f", "l"):
            for deed in (MakeFolder(0, name, 0), MakeFile(0, name, 0), MakeLink(0, name, 0, "a"), Put(0, name, 2),
                         Move(1, "b", 0, name), Move(0, "a", 0, name)):
                self.refused(deed, "taken")
        self.refused(Put(0, "f", 2), "taken")

    def test_a_move_to_its_own_place(self):
        for folder, name in ((0, "a"), (0, "f"), (0, "l"), (1, "b"), (3, "c")):
            self.refused(Move(folder, name, folder, name), "taken")

    def test_full(self):
        self.refused(Take(0, "a"), "full")
        self.refused(Take(1, "b"), "full")
        self.assertIsInstance(done(done(sample(), Take(3, "c")), Take(1, "b")).nodes[3], Gone)

    def test_below(self):
        for goal in (1, 3, 5):
            self.refused(Move(0, "a", goal, "z"), "below")
        for goal in (3, 5):
            self.refused(Move(1, "b", goal, "z"), "below")
        self.refused(Move(3, "c", 5, "z"), "below")
        self.assertEqual(above(done(sample(), Move(1, "b", 0, "z")), 3), 0)
        # A file is moved below the folder in which it stands.
        self.assertEqual(entries_of(done(sample(), Move(1, "f", 5, "z")), 2), [(0, "f"), (5, "z")])

    def test_order_of_the_words(self):
        self.refused(MakeLink(9, "A", -1, ""), "folder")
        self.refused(MakeLink(0, "A", -1, ""), "name")
        self.refused(MakeLink(0, "a", -1, ""), "owner")
        self.refused(MakeLink(0, "a", 0, ""), "text")
        self.refused(MakeLink(0, "a", 0, "a"), "taken")
        self.refused(MakeFile(0, "f", True), "owner")
        self.refused(MakeFolder(2, "", None), "folder")
        self.refused(MakeFolder(0, "", None), "name")
        self.refused(Put(2, "A", 0), "folder")
        self.refused(Put(0, "A", 0), "name")
        self.refused(Put(0, "a", 0), "none")
        self.refused(Put(0, "a", 2), "taken")
        self.refused(Take(6, ""), "folder")
        self.refused(Take(0, ".."), "name")
        self.refused(Move(0, "Z", 9, "Z"), "folder")
        self.refused(Move(9, "a", 1, "z"), "folder")
        self.refused(Move(0, "z", 1, "Z"), "name")
        self.refused(Move(0, "Z", 1, "z"), "name")
        self.refused(Move(0, "z", 0, "a"), "none")
        self.refused(Move(0, "z", 0, "z"), "none")
        # Its own place below itself: the name is there already.
        self.refused(Move(0, "a", 1, "b"), "taken")
        self.refused(Move(0, "a", 1, "z"), "below")

    def test_a_row_of_words_for_every_pair(self):
        """Each pair of what can be wrong with a link that is made, in the document's order."""
        parts = [("folder", 0, 7, 0), ("name", 1, "A", "n"), ("owner", 2, -1, 0), ("text", 3, "", "a")]
        for chosen in itertools.product([False, True], repeat=4):
            arguments = [bad if wrong else good for wrong, (_, _, bad, good) in zip(chosen, parts)]
            words = [word for wrong, (word, _, _, _) in zip(chosen, parts) if wrong]
            if words:
                self.refused(MakeLink(*arguments), words[0])
        self.assertEqual(len(done(sample(), MakeLink(0, "n", 0, "a")).nodes), 9)


class TreesTest(unittest.TestCase):
    def test_no_deed(self):
        self.assertEqual(trees(sample(), []), [sample()])
        self.assertEqual(trees(sample(), ()), [sample()])

    def test_several_deeds(self):
        row = [Take(1, "f"), MakeFile(1, "f", 0), Move(1, "f", 0, "z")]
        expected = [sample()]
        for deed in row:
            expected.append(done(expected[-1], deed))
        self.assertEqual(trees(sample(), row), expected)
        self.assertEqual(trees(sample(), tuple(row)), expected)
        self.assertIsInstance(trees(sample(), row), list)
        self.assertEqual(len(row), 3)

    def test_no_row(self):
        for deeds, index, why in (
            ([Take(0, "z")], 0, "none"),
            ([Take(0, "f"), Take(0, "f")], 1, "none"),
            ([Take(0, "f"), Take(0, "l"), Take(0, "a"), Take(0, "f")], 2, "full"),
            ([MakeFile(5, "a", 0), Take(3, "c")], 1, "full"),
            ([Take(3, "c"), MakeFile(5, "a", 0)], 1, "folder"),
            ([Move(0, "a", 5, "z"), Take(9, "z")], 0, "below"),
            ([MakeFile(0, "n", 0), Put(0, "n", 8)], 1, "taken"),
            ([MakeFile(0, "n", 0), Put(0, "m", 9)], 1, "none"),
            ([MakeFolder(0, "n", 0), MakeLink(8, "m", 0, ""), MakeFile(0, "", 0)], 1, "text"),
            ([MakeFile(0, "n", -1), MakeFile(0, "", 0)], 0, "owner"),
            ([MakeFile(0, "", -1)], 0, "name"),
        ):
            with self.assertRaises(NoRow) as caught:
                trees(sample(), deeds)
            self.assertEqual((caught.exception.index, caught.exception.why), (index, why))

    def test_long_rows(self):
        row = [MakeFolder(0 if k == 0 else 7 + k, "d", k) for k in range(40)]
        after = trees(sample(), row)
        self.assertEqual(len(after), 41)
        self.assertEqual([len(tree.nodes) for tree in after], list(range(8, 49)))
        self.assertEqual(above(after[-1], 47), 46)


def done_plainly(tree, deed):
    """Point [9] by entries alone: the tree as owners, texts and (folder, name, node)."""
    entries = {(at, name): inner for at, node in enumerate(tree.nodes) if isinstance(node, Folder)
               for name, inner in node.entries}
    nodes = list(tree.nodes)
    if isinstance(deed, (MakeFolder, MakeFile, MakeLink)):
        entries[(deed.folder, deed.name)] = len(nodes)
        nodes.append({MakeFolder: lambda: Folder(deed.owner, []), MakeFile: lambda: File(deed.owner),
                      MakeLink: lambda: Link(deed.owner, deed.text)}[deed.__class__]())
    elif isinstance(deed, Put):
        entries[(deed.folder, deed.name)] = deed.node
    else:
        node = entries.pop((deed.folder, deed.name))
        if isinstance(deed, Move):
            entries[(deed.goal, deed.other)] = node
        elif isinstance(nodes[node], Folder):
            nodes[node] = Gone(nodes[node].owner, deed.folder)
    return Tree([Folder(node.owner, [(name, inner) for (at, name), inner in entries.items() if at == number])
                 if isinstance(node, Folder) else node for number, node in enumerate(nodes)])


class DrawnTest(unittest.TestCase):
    def test_drawn_deeds(self):
        rng = generator(11)
        words = set()
        for _ in range(4000):
            tree = draw_tree(rng, rng.randint(1, 8), names="ab")
            deed = draw_deed(rng, tree, names="ab")
            before = Tree(tree.nodes)
            try:
                after = done(tree, deed)
            except NoDeed as error:
                words.add(error.why)
                with self.assertRaises(NoRow):
                    trees(tree, [deed])
            else:
                self.assertEqual(after, done_plainly(tree, deed))
                self.assertEqual(trees(tree, [deed]), [tree, after])
            self.assertEqual(tree, before)
        self.assertEqual(words, {"folder", "none", "taken", "full", "below"})

    def test_drawn_rows(self):
        rng = generator(12)
        for _ in range(100):
            tree = draw_tree(rng, 6)
            row = draw_row(rng, tree, 10)
            after = trees(tree, row)
            self.assertEqual(len(after), len(row) + 1)
            for one, other, deed in zip(after, after[1:], row):
                self.assertEqual(done_plainly(one, deed), other)
            self.assertEqual(after, trees(tree, row))


if __name__ == "__main__":
    unittest.main()
