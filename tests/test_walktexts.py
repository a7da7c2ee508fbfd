"""Point [24]: texts of trees, rows of deeds and results."""

import unittest

from namewalk.deeds import MakeFile, MakeFolder, MakeLink, Move, Put, Take
from namewalk.errors import BadText, NoTree
from namewalk.processes import Done, Made
from namewalk.reaching import New
from namewalk.trees import File, Folder, Gone, Link, Tree
from namewalk.walking import Came, Refused
from namewalk.walktexts import read_row, read_tree, result_text, row_text, tree_text
from tests.drawn import draw_deed, draw_tree, generator
from tests.samples import BAD_NAMES, GOOD_NAMES, NO_STRINGS

BAD_NUMBERS = ["", "-1", "+1", "00", "01", "1.0", "1a", "a", "0x1", "1_0", "1234567890", "0000000001", "\u0661",
               "\u00b2",
               "1\n", "1\t", "(1)", "None", "1e3"]
BAD_PATHS = ["", "A", "a/B", "a//b;", "abcdefghijklm", "a\u00e4", "a=b", "a/b,"]


def sample():
    return Tree([Folder(0, [("a", 1), ("f", 2), ("l", 3)]), Folder(12, [("b", 2)]), File(3), Link(4, "/a/./b//.."),
                 Gone(5, 1)])


class Checked(unittest.TestCase):
    def bad(self, read, text, place):
        with self.subTest(repr(text)):
            with self.assertRaises(BadText) as caught:
                read(text)
            self.assertEqual(caught.exception.place, place)


class TreeTextTest(Checked):
    def both(self, text, tree):
        self.assertEqual(tree_text(tree), text)
        self.assertEqual(read_tree(text), tree)

    def test_each_kind_of_node(self):
        self.both("folder 0", Tree([Folder(0, [])]))
        self.both("folder 0 a=1 f=2 l=3; folder 12 b=2; file 3; link 4 /a/./b//..; gone 5 1", sample())
        self.both("folder 7; gone 0 2; gone 1 1", Tree([Folder(7, []), Gone(0, 2), Gone(1, 1)]))

    def test_entries_in_any_order(self):
        for text in ("folder 0 l=3 a=1 f=2; folder 12 b=2; file 3; link 4 /a/./b//..; gone 5 1",
                     "folder 0 f=2 l=3 a=1; folder 12 b=2; file 3; link 4 /a/./b//..; gone 5 1"):
            self.assertEqual(read_tree(text), sample())
            self.assertEqual(tree_text(read_tree(text)), tree_text(sample()))
        self.assertEqual(tree_text(Tree([Folder(0, [("b", 1), ("a", 2), ("-", 1)]), File(0), File(1)])),
                         "folder 0 -=1 a=2 b=1; file 0; file 1")

    def test_names(self):
        for name in GOOD_NAMES:
            self.both("folder 0 %s=1; file 0" % name, Tree([Folder(0, [(name, 1)]), File(0)]))
        for name in BAD_NAMES:
            if " " not in name and "=" not in name:
                self.bad(read_tree, "folder 0 %s=1; file 0" % name, 0)
        every = "abcdefghijkl mnopqrstuvwx yz0123456789 _-.".split(" ")
        self.both("folder 0 %s; file 0" % " ".join("%s=1" % name for name in sorted(every)),
                  Tree([Folder(0, [(name, 1) for name in every]), File(0)]))

    def test_links_keep_their_texts(self):
        for text in (".", "/", "a", "../..", "/a//b/./", "..././...", "a/" * 60 + "a"):
            self.both("folder 0; link 1 " + text, Tree([Folder(0, []), Link(1, text)]))
        for text in BAD_PATHS:
            self.bad(read_tree, "folder 0; link 1 " + text, 1)

    def test_numbers(self):
        self.both("folder 999999999; file 100000000", Tree([Folder(999999999, []), File(100000000)]))
        for number in BAD_NUMBERS:
            for text, place in (("folder %s", 0), ("folder %s a=1; file 0", 0), ("folder 0 a=%s; file 0", 0),
                                ("folder 0; file %s", 1), ("folder 0; link %s a", 1), ("folder 0; gone %s 0", 1),
                                ("folder 0; file 1; gone 0 %s", 2)):
                self.bad(read_tree, text % number, place)

    def test_words_left_out_put_in_and_doubled(self):
        for node in ("folder", "folder a=1", "folder 0 0", "folder 0 a", "folder 0 a=", "folder 0 =1", "folder 0 a=1=1",
                     "folder 0 a==1", "folder 0 a 1", "folder 0 a=1 0", "file", "file 0 0", "file 0 a", "link 0",
                     "link",
                     "link a", "link 0 a b", "link 0 0 a b", "gone", "gone 0", "gone 0 0 0", "gone 0 a", "files 0",
                     "Folder 0", "FILE 0", "node 0", "0", "a", "", " ", "folder  0", "folder 0 ", " folder 0",
                     "file 0  ", "link 0  a", "folder 0  a=1", "folder 0 a =1", "folder 0 a= 1", "folder folder 0",
                     "made 0", "take 0 a", "nothing", "folder\t0", "folder 0\n", "folder:0"):
            self.bad(read_tree, node, 0)
            self.bad(read_tree, node + "; file 0", 0)
            self.bad(read_tree, "folder 0; file 1; " + node, 2)
            self.bad(read_tree, "folder 0; %s; no; " % node, 1)

    def test_separators(self):
        for text, place in (("folder 0;file 0", 0), ("folder 0 ; file 0", 0), ("folder 0;  file 0", 1),
                            ("folder 0; ; file 0", 1), ("folder 0; file 0;", 1), ("folder 0; file 0; ", 2),
                            ("; folder 0", 0), (";folder 0", 0), (" folder 0", 0), ("folder 0, file 0", 0),
                            ("folder 0;; file 0", 0), ("folder 0 file 0", 0), ("; ", 0), (";", 0),
                            ("folder 0;\nfile 0", 0)):
            self.bad(read_tree, text, place)

    def test_no_texts(self):
        self.bad(read_tree, "", 0)
        for value in NO_STRINGS:
            self.bad(read_tree, value, 0)

    def test_good_form_comes_before_the_tree(self):
        for text, why, node in (("file 0", "root", 0), ("gone 0 0", "root", 0), ("folder 0; gone 0 1", "above", 1),
                                ("folder 0 a=1 b=1; folder 0", "entries", 1), ("folder 0; folder 0", "entries", 1),
                                ("folder 0 a=7", "entry", 0), ("folder 0 a=0", "entry", 0),
                                ("folder 0 a=1 a=1; file 0", "twice", 0),
                                ("folder 0 b=1 a=2 b=2; file 0; file 0", "twice", 0),
                                ("folder 0; folder 0 a=2; folder 0 a=1", "loop", 1),
                                ("folder 0; file 0; gone 0 1", "above", 2),
                                ("folder 0 a=999999999", "entry", 0)):
            with self.subTest(text):
                with self.assertRaises(NoTree) as caught:
                    read_tree(text)
                self.assertEqual((caught.exception.why, caught.exception.node), (why, node))
                self.bad(read_tree, text + "; file", text.count(";") + 1)

    def test_drawn(self):
        rng = generator(141)
        for _ in range(200):
            tree = draw_tree(rng, rng.randint(1, 12), names=["a", "b.c", "...", "-_-", "0"], owners=12)
            self.assertEqual(tree_text(tree), "; ".join(self.written(node) for node in tree.nodes))
            again = read_tree(tree_text(tree))
            self.assertEqual(again, tree)
            self.assertEqual(vars(again), vars(tree))
            parts = tree_text(tree).split("; ")
            index = rng.randrange(len(parts))
            parts[index] = rng.choice([parts[index] + " ", " " + parts[index], parts[index].upper(), parts[index][1:],
                                       parts[index].replace(" ", "  ", 1), parts[index].replace(" ", "", 1)])
            self.bad(read_tree, "; ".join(parts), index)

    def written(self, node):
        words = [node.__class__.__name__.lower(), str(node.owner)]
        if isinstance(node, Folder):
            words += [name + "=" + str(inner) for name, inner in sorted(node.entries)]
        if isinstance(node, Link):
            words += [node.text]
        if isinstance(node, Gone):
            words += [str(node.above)]
        return " ".join(words)


class RowTextTest(Checked):
    def test_each_kind_of_deed(self):
        row = [MakeFolder(0, "a", 1), MakeFile(2, "b", 3), MakeLink(4, "c", 5, "/x/./y/"), Put(6, "d", 7), Take(8, "e"),
               Move(9, "f", 10, "g")]
        text = "folder 0 a 1, file 2 b 3, link 4 c 5 /x/./y/, put 6 d 7, take 8 e, move 9 f 10 g"
        self.assertEqual(row_text(row), text)
        self.assertEqual(row_text(tuple(row)), text)
        self.assertEqual(read_row(text), row)
        for deed, part in zip(row, text.split(", ")):
            self.assertEqual(row_text([deed]), part)
            self.assertEqual(read_row(part), [deed])
            self.assertEqual(vars(read_row(part)[0]), vars(deed))

    def test_no_deeds(self):
        self.assertEqual(row_text([]), "nothing")
        self.assertEqual(row_text(()), "nothing")
        self.assertEqual(read_row("nothing"), [])
        for text, place in (("nothing, take 0 a", 0), ("take 0 a, nothing", 1), ("nothing, nothing", 0), ("Nothing", 0),
                            ("nothing ", 0), (" nothing", 0), ("nothing, ", 0), ("no", 0), ("nothing nothing", 0)):
            self.bad(read_row, text, place)

    def test_lists_are_new(self):
        for text in ("nothing", "take 0 a, take 0 a"):
            found = read_row(text)
            self.assertIsInstance(found, list)
            found.append(1)
            self.assertEqual(len(read_row(text)), text.count("take"))

    def test_names_and_texts(self):
        for name in GOOD_NAMES:
            for text in ("folder 0 %s 1", "file 0 %s 1", "link 0 %s 1 a", "put 0 %s 1", "take 0 %s", "move 0 %s 1 a",
                         "move 0 a 1 %s"):
                self.assertEqual(row_text(read_row(text % name)), text % name)
        for name in BAD_NAMES:
            if " " not in name:
                for text in ("folder 0 %s 1", "file 0 %s 1", "link 0 %s 1 a", "put 0 %s 1", "take 0 %s",
                             "move 0 %s 1 a", "move 0 a 1 %s"):
                    self.bad(read_row, text % name, 0)
        for path in BAD_PATHS:
            self.bad(read_row, "take 0 a, link 0 a 1 " + path, 1)

    def test_numbers(self):
        forms = ("folder %s a 1", "folder 0 a %s", "file %s a 1", "file 0 a %s", "link %s a 1 x", "link 0 a %s x",
                 "put %s a 1", "put 0 a %s", "take %s a", "move %s a 1 b", "move 0 a %s b")
        for text in forms:
            for number in ("0", "1", "10", "999999999"):
                self.assertEqual(row_text(read_row(text % number)), text % number)
            for number in BAD_NUMBERS:
                self.bad(read_row, text % number, 0)
                self.bad(read_row, "take 0 a, " + text % number, 1)

    def test_words_left_out_put_in_and_doubled(self):
        for text in ("folder 0 a", "folder a 1", "folder 0 1", "folder 0 a 1 2", "folder 0 a 1 x", "file 0 a",
                     "file 0 a 1 x", "link 0 a 1", "link 0 a x", "link 0 a 1 x y", "put 0 a", "put 0 a b",
                     "put 0 a 1 1",
                     "take 0", "take a", "take 0 a 0", "take 0 a a", "move 0 a", "move 0 a 1", "move 0 a b",
                     "move 0 a 1 b c", "move a 1 b", "Take 0 a", "takes 0 a", "gone 0 1", "remove 0 a", "",
                     " take 0 a", "take 0 a ", "take  0 a", "take 0  a", "take0 a", "take 0a", "take take 0 a", "step",
                     "can", "take,0,a", "take\t0 a", "take 0 a\n"):
            self.bad(read_row, text, 0)
            self.bad(read_row, text + ", take 0 a", 0)
            self.bad(read_row, "take 0 a, take 0 b, " + text, 2)
            self.bad(read_row, "take 0 a, " + text + ", no", 1)

    def test_separators(self):
        for text, place in (("take 0 a,take 0 a", 0), ("take 0 a , take 0 a", 0), ("take 0 a,  take 0 a", 1),
                            ("take 0 a, , take 0 a", 1), ("take 0 a,", 0), ("take 0 a, ", 1), (", take 0 a", 0),
                            (",take 0 a", 0), ("take 0 a; take 0 a", 0), ("take 0 a take 0 a", 0), (", ", 0), (",", 0)):
            self.bad(read_row, text, place)

    def test_no_texts(self):
        self.bad(read_row, "", 0)
        for value in NO_STRINGS:
            self.bad(read_row, value, 0)

    def test_drawn(self):
        rng = generator(142)
        for _ in range(200):
            tree = draw_tree(rng, 5)
            many, names = rng.randint(1, 9), ["a", "b.c", "...", "-_-", "0"]
            row = [draw_deed(rng, tree, names=names, owners=12) for _ in range(many)]
            text = ", ".join(self.written(deed) for deed in row)
            self.assertEqual(row_text(row), text)
            self.assertEqual(read_row(text), row)

    def written(self, deed):
        """The fields of deeds come in the order of their texts."""
        words = {"MakeFolder": "folder", "MakeFile": "file", "MakeLink": "link"}
        word = words.get(deed.__class__.__name__, deed.__class__.__name__.lower())
        return " ".join([word] + [str(value) for value in vars(deed).values()])


class ResultTextTest(unittest.TestCase):
    def test_each_kind(self):
        for result, text in ((Came(0), "came 0"), (Came(59), "came 59"), (New("folder"), "new folder"),
                             (New("file"), "new file"), (New("link"), "new link"), (Refused("none"), "refused none"),
                             (Refused("owner"), "refused owner"), (Refused("gone"), "refused gone"),
                             (Refused("name"), "refused name"), (Done(), "done"), (Made(0, 0), "made 0 0"),
                             (Made(2, 5), "made 2 5")):
            self.assertEqual(result_text(result), text)


if __name__ == "__main__":
    unittest.main()
