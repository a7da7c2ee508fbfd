"""Point [18], and touched of point [20]: what walks can come to while others do what they may."""

import unittest

from namewalk.errors import NoNode
from namewalk.others import Others, loose, pieces
from namewalk.paths import Path, read_path
from namewalk.reaching import New, reach, touched
from namewalk.trees import File, Folder, Gone, Link, Tree
from namewalk.walking import Came, Look, Refused, stands, walk
from tests.drawn import draw_look, draw_path, draw_tree, generator, places
from tests.plain_reach import PlainReach, Tried, told
from tests.samples import INTERFACE_OBJECTS, NO_NUMBERS, THEIRS, sample

PLAIN = Look(False, False, None)
NEARLY = Look(True, False, None)
ALL = Look(True, True, None)
NEWS = ["new folder", "new file", "new link"]


class Checked(unittest.TestCase):
    def reached(self, tree, others, place, text, look, expected, at=None):
        """These are the results, as words and numbers; also by the plain reading, and for folders given twice."""
        with self.subTest((place, text)):
            path = read_path(text)
            found = [told(result) for result in reach(tree, others, place, path, look)]
            self.assertEqual(found, expected)
            if at is not None:
                self.assertEqual(touched(tree, others, place, path, look), at)
            known = PlainReach(tree, others, look).begin(place, path)
            self.assertEqual(known.ordered(), expected)
            self.assertEqual(touched(tree, others, place, path, look),
                             sorted(at for at in known.stood if at in others.folders))
            twice = Others(others.owner, others.folders + others.folders[::-1])
            self.assertEqual(reach(tree, twice, place, path, look), reach(tree, others, place, path, look))


class NewTest(unittest.TestCase):
    def test_fields_and_equality(self):
        self.assertEqual(vars(New("file")), {"kind": "file"})
        ones = [New("folder"), New("file"), New("link"), Came("file"), Refused("file")]
        for i, one in enumerate(ones):
            for j, other in enumerate(ones):
                self.assertIs(one == other, i == j)
                self.assertIs(one != other, i != j)
        self.assertEqual(New("link"), New("link"))
        for other in INTERFACE_OBJECTS + [None, "file", ("file",), object()]:
            if other.__class__ != New:
                self.assertIs(New("file") == other, False)
                self.assertIs(other == New("file"), False)

    def test_results_are_objects(self):
        found = reach(sample(), THEIRS, 1, read_path("z"), PLAIN)
        self.assertEqual(found, [Came(2), Came(3), Came(5), Came(10), Came(12), New("folder"), New("file"), New("link"),
                                 Refused("none")])
        self.assertIsInstance(found, list)
        found.clear()
        self.assertEqual(len(reach(sample(), THEIRS, 1, read_path("z"), PLAIN)), 9)


class NamesTest(Checked):
    def test_folders_that_are_not_theirs(self):
        self.reached(sample(), THEIRS, 0, "a", PLAIN, [1], [])
        self.reached(sample(), THEIRS, 0, "f", PLAIN, [4], [])
        self.reached(sample(), THEIRS, 0, "z", PLAIN, ["none"], [])
        self.reached(sample(), THEIRS, 3, "d", PLAIN, [6], [])
        self.reached(sample(), THEIRS, 9, "i", PLAIN, [5], [])
        self.reached(sample(), THEIRS, 7, "a", PLAIN, ["none"], [])

    def test_folders_of_theirs(self):
        """Each loose node but the head, each folder that stands there, each file of theirs, new ones, and none."""
        for name in ("a", "b", "c", "g", "z"):
            self.reached(sample(), THEIRS, 1, name, PLAIN, [2, 3, 5, 10, 12] + NEWS + ["none"], [1])
            self.reached(sample(), THEIRS, 6, name, PLAIN, [2, 5, 7, 10, 12] + NEWS + ["none"], [6])
            # 2 is the head of its own piece.
            self.reached(sample(), THEIRS, 2, name, PLAIN, [5, 10, 12] + NEWS + ["none"], [2])

    def test_the_head_of_a_piece_and_other_loose_nodes(self):
        tree = Tree([Folder(0, [("a", 1)]), Folder(0, [("b", 2), ("c", 3)]), Folder(0, [("d", 4)]), Folder(0, []),
                     Folder(0, [("e", 5)]), Folder(0, [])])
        others = Others(9, [1, 2, 3, 5])
        self.assertEqual(loose(tree, others), [2, 3])
        self.reached(tree, others, 1, "x", PLAIN, [2, 3] + NEWS + ["none"], [1])
        self.reached(tree, others, 2, "x", PLAIN, [3, 4] + NEWS + ["none"], [2])
        # 5 stands in the piece of 2.
        self.reached(tree, others, 5, "x", PLAIN, [3] + NEWS + ["none"], [5])
        self.reached(tree, others, 3, "x", PLAIN, [2] + NEWS + ["none"], [3])

    def test_files_and_links_of_theirs(self):
        """In one entry, in several, in none: it is their owner that counts; others' only in entries of theirs."""
        for make in (File, lambda owner: Link(owner, "zz")):
            tree = Tree([Folder(0, [("a", 1), ("b", 2), ("c", 3), ("d", 3)]), Folder(0, [("e", 5), ("f", 6), ("g", 7)]),
                         make(5), make(5), make(5), make(5), make(0), make(0), make(0)])
            for owner, expected in ((5, [2, 3, 4, 5, 6, 7]), (7, [5, 6, 7]), (0, [5, 6, 7, 8])):
                self.reached(tree, Others(owner, [1]), 1, "x", PLAIN, expected + NEWS + ["none"], [1])

    def test_further_steps(self):
        self.reached(sample(), THEIRS, 0, "a/b", PLAIN, [2, 3, 5, 10, 12] + NEWS + ["none"], [1])
        # From 2, from 3, or from a new folder.
        self.reached(sample(), THEIRS, 0, "a/b/d", PLAIN, [2, 5, 6, 10, 12] + NEWS + ["none", "file", "link"], [1, 2])
        self.reached(sample(), THEIRS, 0, "a/b/d/e", PLAIN, [2, 5, 7, 10, 12] + NEWS + ["none", "file", "link"],
                     [1, 2, 6])
        self.reached(sample(), THEIRS, 3, "d/e/x", PLAIN, [2, 5, 10, 12] + NEWS + ["none", "file", "link"], [2, 6])

    def test_the_root_is_theirs(self):
        tree = Tree([Folder(0, [("a", 1)]), Folder(0, [("b", 2)]), Folder(0, [])])
        self.reached(tree, Others(0, [0]), 0, "a/b", PLAIN, [2] + NEWS + ["none", "file", "link"], [0])
        self.reached(tree, Others(0, [0]), 0, "x", PLAIN, [1] + NEWS + ["none"], [0])
        self.reached(tree, Others(0, [0, 1]), 0, "x", PLAIN, [1] + NEWS + ["none"], [0])
        self.reached(tree, Others(0, [0, 1]), 1, "x", PLAIN, [2] + NEWS + ["none"], [1])
        self.reached(tree, Others(0, [0, 2]), 2, "x", PLAIN, NEWS + ["none"], [2])

    def test_no_folders(self):
        for text in ("a/b", "f", "z", "..", ".", "/", "a/../f"):
            for place in places(sample()):
                expected = told(walk(sample(), place, read_path(text), PLAIN))
                self.reached(sample(), Others(5, []), place, text, PLAIN, [expected], [])

    def test_absolute_paths(self):
        self.reached(sample(), THEIRS, 2, "/a", PLAIN, [1], [])
        self.reached(sample(), THEIRS, 8, "/a/x", PLAIN, [2, 3, 5, 10, 12] + NEWS + ["none"], [1])

    def test_paths_without_steps(self):
        for place in places(sample()):
            self.reached(sample(), THEIRS, place, ".", ALL, [place], [])
            self.reached(sample(), THEIRS, place, "/", PLAIN, [0], [])
            self.reached(sample(), THEIRS, place, ".", Look(False, False, []), [place], [])

    def test_gone_folders(self):
        self.reached(sample(), THEIRS, 8, "a", PLAIN, ["none"], [])
        self.reached(sample(), THEIRS, 8, "..", PLAIN, [2], [])
        self.reached(sample(), THEIRS, 11, "..", PLAIN, [8], [])
        self.reached(sample(), THEIRS, 11, "../../x", PLAIN, [5, 10, 12] + NEWS + ["none"], [2])


class UpTest(Checked):
    def test_from_folders_that_are_not_loose(self):
        self.reached(sample(), THEIRS, 0, "..", PLAIN, [0], [])
        self.reached(sample(), THEIRS, 1, "..", PLAIN, [0], [1])
        self.reached(sample(), THEIRS, 3, "..", PLAIN, [1], [])
        self.reached(sample(), THEIRS, 6, "..", PLAIN, [3], [6])
        self.reached(sample(), THEIRS, 7, "..", PLAIN, [6], [])
        self.reached(sample(), THEIRS, 9, "..", PLAIN, [0], [])

    def test_from_loose_folders(self):
        """To each of their folders in another piece, and to a new one."""
        self.reached(sample(), THEIRS, 2, "..", PLAIN, [1, 6, "new folder"], [2])
        self.reached(sample(), THEIRS, 2, "../..", PLAIN, [0, 1, 2, 3, 6, "new folder"], [1, 2, 6])
        tree = Tree([Folder(0, [("a", 1)]), Folder(0, [("b", 2)]), Folder(0, [("c", 3)]), Folder(0, [("d", 4)]),
                     Folder(0, [])])
        # 4 stands in the piece of 2, since 3 is not theirs.
        others = Others(0, [1, 2, 4])
        self.reached(tree, others, 2, "..", PLAIN, [1, "new folder"], [2])
        self.reached(tree, others, 4, "..", PLAIN, [3], [4])

    def test_from_new_folders(self):
        """To each of their folders, and to another new one."""
        self.reached(sample(), THEIRS, 1, "x/..", PLAIN, [1, 2, 6, "new folder", "none", "file", "link"], [1, 2])
        tree = Tree([Folder(0, [("a", 1)]), Folder(0, [])])
        self.reached(tree, Others(0, [1]), 1, "x/..", PLAIN, [1, "new folder", "none", "file", "link"], [1])
        self.reached(tree, Others(0, [1]), 1, "x/../y/../z", PLAIN, NEWS + ["none", "file", "link"], [1])
        self.reached(tree, Others(0, [1]), 1, "x/../..", PLAIN, [0, 1, "new folder", "none", "file", "link"], [1])

    def test_names_at_new_folders(self):
        """Each loose node, also the heads of pieces; no folder that is not loose."""
        tree = Tree([Folder(0, [("a", 1)]), Folder(0, [("b", 2), ("c", 3), ("f", 4)]), Folder(0, []), Folder(0, []),
                     File(0), File(5), File(1)])
        others = Others(5, [1, 2])
        self.reached(tree, others, 2, "..", PLAIN, [1, "new folder"], [2])
        self.reached(tree, others, 2, "x", PLAIN, [4, 5] + NEWS + ["none"], [2])
        # From 1, or from a new folder, where 2 can stand, too, but not 3.
        self.reached(tree, others, 2, "x/y", PLAIN, [2, 4, 5] + NEWS + ["none", "file", "link"], [2])


class RefusedTest(Checked):
    def test_files(self):
        tree = Tree([Folder(0, [("a", 1)]), Folder(0, [("f", 2)]), File(0)])
        self.reached(tree, Others(5, [1]), 1, "x", PLAIN, [2] + NEWS + ["none"], [1])
        self.reached(tree, Others(5, [1]), 1, "x/", PLAIN, ["new folder", "none", "file", "link"], [1])
        self.reached(tree, Others(5, []), 1, "f/", PLAIN, ["file"], [])
        self.reached(tree, Others(5, []), 1, "f/x", PLAIN, ["file"], [])

    def test_links_that_are_not_followed(self):
        tree = Tree([Folder(0, [("a", 1)]), Folder(0, [("l", 2)]), Link(0, "/a")])
        for look in (PLAIN, Look(False, True, None)):
            self.reached(tree, Others(5, [1]), 1, "x", look, [2] + NEWS + ["none"], [1])
            self.reached(tree, Others(5, [1]), 1, "x/", look, ["new folder", "none", "file", "link"], [1])
            self.reached(tree, Others(5, []), 1, "l/", look, ["link"], [])
            self.reached(tree, Others(5, []), 1, "l", look, [2], [])

    def test_the_order_of_the_results(self):
        tree = Tree([Folder(0, [("a", 1)]), Folder(0, [("l", 2), ("f", 3)]), Link(0, "/a"), File(3)])
        found = reach(tree, Others(0, [1]), 1, read_path("x/y"), Look(True, False, [0]))
        self.assertEqual(found, [Came(2), New("folder"), New("file"), New("link"), Refused("none"), Refused("owner"),
                                 Refused("file"), Refused("links")])
        found = reach(tree, Others(0, [1]), 1, read_path("x/y"), Look(False, False, [0]))
        self.assertEqual(found[-4:], [Refused("none"), Refused("owner"), Refused("file"), Refused("link")])


class OwnersTest(Checked):
    def tree(self):
        return Tree([Folder(0, [("a", 1)]), Folder(1, [("b", 2), ("f", 3)]), Folder(2, []), File(3), File(5)])

    def test_the_owner_of_what_they_make_is_among_them(self):
        self.reached(self.tree(), Others(5, [1, 2]), 1, "x", Look(False, False, [5]),
                     [4] + NEWS + ["none", "owner"], [1])
        self.reached(self.tree(), Others(5, [1, 2]), 1, "x", Look(False, False, [2, 5]),
                     [2, 4] + NEWS + ["none", "owner"], [1])
        self.reached(self.tree(), Others(5, [1, 2]), 1, "x", Look(False, False, [2, 3, 5]),
                     [2, 3, 4] + NEWS + ["none"], [1])

    def test_the_owner_of_what_they_make_is_not_among_them(self):
        self.reached(self.tree(), Others(5, [1, 2]), 1, "x", Look(False, False, [2, 3]), [2, 3, "none", "owner"], [1])
        self.reached(self.tree(), Others(5, [1, 2]), 1, "x", Look(False, False, []), ["none", "owner"], [1])
        self.reached(self.tree(), Others(5, [1, 2]), 1, "x/y", Look(False, False, [2, 3]),
                     [3, "none", "owner", "file"], [1, 2])

    def test_up_is_asked_and_the_beginning_is_not(self):
        self.reached(self.tree(), Others(5, [1, 2]), 2, "..", Look(False, False, [1]), [1, "owner"], [2])
        self.reached(self.tree(), Others(5, [1, 2]), 2, "..", Look(False, False, [5]), ["new folder", "owner"], [2])
        self.reached(self.tree(), Others(5, [1, 2]), 1, "..", Look(False, False, [1]), ["owner"], [1])
        self.reached(self.tree(), Others(5, [1, 2]), 2, "/..", Look(False, False, [0]), [0], [])

    def test_links_are_asked(self):
        tree = Tree([Folder(0, [("a", 1), ("l", 2)]), Folder(1, []), Link(2, "a")])
        self.reached(tree, Others(5, []), 0, "l", Look(True, True, [1]), ["owner"], [])
        self.reached(tree, Others(5, []), 0, "l", Look(True, True, [1, 2]), [1], [])
        self.reached(tree, Others(5, []), 0, "l", Look(True, True, [2]), ["owner"], [])
        # New links are refused if their owner is.
        self.reached(tree, Others(5, [1]), 0, "a/x", Look(True, True, [1]), ["none", "owner"], [1])


class LinksTest(Checked):
    def test_links_of_the_tree_without_any_folder_of_theirs(self):
        tree = Tree([Folder(0, [("d", 1), ("l", 3), ("r", 4)]), Folder(0, [("f", 2), ("l", 3), ("r", 4)]), File(0),
                     Link(0, "d/"), Link(0, "/r")])
        for text in ("l", "l/f", "l/", "d/l", "r", "r/x", "d/r/", "l/..", "l/r"):
            for look in (PLAIN, NEARLY, ALL):
                expected = told(walk(tree, 0, read_path(text), look))
                self.reached(tree, Others(5, []), 0, text, look, [expected], [])

    def test_new_links_lead_anywhere(self):
        """Their text may lead down, up, and from the root, to folders and files, and to links again."""
        tree = Tree([Folder(0, [("a", 1), ("f", 2), ("b", 3)]), Folder(0, []), File(0), Folder(0, [("g", 4)]), File(0)])
        everywhere = [0, 1, 2, 3, 4]
        self.reached(tree, Others(5, [1]), 1, "x", ALL, everywhere + NEWS[:2] + ["none", "file", "links"], [1])
        self.reached(tree, Others(5, [1]), 1, "x", NEARLY, NEWS + ["none"], [1])
        self.reached(tree, Others(5, [1]), 1, "x/", NEARLY, [0, 1, 3, "new folder", "none", "file", "links"], [1])
        self.reached(tree, Others(5, [1]), 1, "x/g", NEARLY, [4] + NEWS + ["none", "file", "links"], [1])
        self.reached(tree, Others(5, [1]), 1, "x/..", NEARLY, [0, 1, "new folder", "none", "file", "links"], [1])

    def test_new_links_touch_all_folders_to_which_a_text_leads(self):
        tree = Tree([Folder(0, [("a", 1), ("b", 2)]), Folder(0, []), Folder(0, [("c", 3)]), Folder(0, [])])
        self.reached(tree, Others(5, [1, 3]), 1, "x", ALL, [0, 1, 2, 3] + NEWS[:2] + ["none", "file", "links"], [1, 3])
        self.reached(tree, Others(5, [1, 3]), 1, "x", NEARLY, NEWS + ["none"], [1])
        self.reached(tree, Others(5, [1, 3]), 1, "x/", NEARLY, [0, 1, 2, 3, "new folder", "none", "file", "links"],
                     [1, 3])

    def test_links_of_the_tree_that_they_move(self):
        """A link that is not followed keeps its text; it is read where they bring it."""
        tree = Tree([Folder(0, [("a", 1), ("b", 2), ("x", 5)]), Folder(0, [("l", 3)]), Folder(0, [("x", 4)]),
                     Link(1, "../x"), File(1), File(1)])
        ask = Look(True, True, [0, 1])
        # 1 and 2 are not loose, so that the text leads to the root.
        # 4 is loose itself.
        self.reached(tree, Others(5, [1, 2]), 1, "l", ask, [4, 5, "none", "owner"], [1])
        self.reached(tree, Others(5, [1, 2]), 2, "l", ask, [4, 5, "none", "owner"], [2])
        self.reached(tree, Others(5, [1, 2]), 2, "l", Look(True, False, [0, 1]), [3, 4, "none", "owner"], [2])

    def test_texts_that_lead_up_from_a_loose_folder(self):
        tree = Tree([Folder(0, [("a", 1), ("f", 4)]), Folder(0, [("b", 2), ("l", 3)]), Folder(0, []), Link(0, ".."),
                     File(0)])
        ask = Look(True, True, [0])
        self.reached(tree, Others(5, [1, 2]), 2, "l", ask, [1, "none", "owner"], [2])
        self.reached(tree, Others(5, [1, 2]), 1, "l", ask, [0, 2, "none", "owner"], [1])
        # The link leads from 1 to the root, or the name to 2, where f can be the link, which leads up again.
        self.reached(tree, Others(5, [1, 2]), 0, "a/l/f", ask, [1, 4, "none", "owner"], [1, 2])

    def test_eight_links_are_followed(self):
        """A link of theirs, whose owner alone is asked for, can be met at each look; new ones are not taken."""
        tree = Tree([Folder(0, [("a", 1)]), Folder(0, [("l", 2)]), Link(1, ".")])
        others, ask = Others(5, [1]), Look(True, True, [1])
        for many in (1, 7, 8):
            self.reached(tree, others, 1, "/".join(["l"] * many), ask, [1, "none", "owner"], [1])
        for many in (9, 10):
            self.reached(tree, others, 1, "/".join(["l"] * many), ask, ["none", "owner", "links"], [1])
        last = Look(True, False, [1])
        self.reached(tree, others, 1, "/".join(["l"] * 9), last, [2, "none", "owner"], [1])
        self.reached(tree, others, 1, "/".join(["l"] * 9) + "/", last, ["none", "owner", "links"], [1])

    def test_folders_and_files_behind_eight_links(self):
        """The ninth link is refused, not what else comes then."""
        tree = Tree([Folder(0, [("a", 1), ("d", 3)]), Folder(0, [("l", 2), ("m", 5)]), Link(1, "."),
                     Folder(1, [("f", 4)]), File(1), Link(1, "/d/f")])
        seven, eight = "/".join(["l"] * 7), "/".join(["l"] * 8)
        for text, expected in ((eight, 1), (eight + "/../d/f", 4), (eight + "/../d", 3), (seven + "/m", 4),
                               (eight + "/../d/f/x", "file"), (eight + "/x", "none"), (eight + "/m", "links")):
            self.reached(tree, Others(5, []), 1, text, ALL, [expected], [])
        ask = Look(True, True, [1])
        self.reached(tree, Others(5, [1]), 1, seven + "/m", ask, [1, 4, "none", "owner", "file"], [1])
        self.reached(tree, Others(5, [1]), 1, seven + "/m/", ask, [1, "none", "owner", "file"], [1])
        self.reached(tree, Others(5, [1]), 1, eight + "/m", ask, ["none", "owner", "file", "links"], [1])

    def test_new_links_that_lead_up_where_the_way_down_is_barred(self):
        """The way from the root leads through a folder of an owner that is not asked for."""
        chain = [Folder(0, [("a", 1)]), Folder(1, [("b", 2)]), Folder(2, [("c", 3)]), Folder(2, [("d", 4)]),
                 Folder(2, [])]
        ask = Look(True, True, [2, 5])
        ends = NEWS[:2] + ["none", "owner", "file", "links"]
        # Up from 4, which is theirs and not loose, and on from 3 and 2, which are not theirs.
        self.reached(Tree(chain), Others(5, [4]), 4, "x", ask, [0, 2, 3, 4] + ends, [4])
        self.reached(Tree(chain), Others(5, [4]), 4, "x/d", ask, [0, 2, 3, 4] + ends, [4])
        # Up from 2, which is loose, to 4, which is theirs and lies behind a barred one.
        behind = [Folder(0, [("a", 1), ("c", 3)]), Folder(2, [("b", 2)]), Folder(2, []), Folder(1, [("d", 4)]),
                  Folder(2, [])]
        self.reached(Tree(behind), Others(5, [1, 2, 4]), 2, "x", ask, [0, 1, 2, 4] + ends, [1, 2, 4])

    def test_rings_of_links(self):
        tree = Tree([Folder(0, [("a", 1)]), Folder(0, [("l", 2), ("m", 3)]), Link(1, "m"), Link(1, "l")])
        ask = Look(True, True, [1])
        self.reached(tree, Others(5, []), 1, "l", ask, ["links"], [])
        self.reached(tree, Others(5, [1]), 1, "l", ask, ["none", "owner", "links"], [1])

    def test_a_text_that_wants_a_folder(self):
        tree = Tree([Folder(0, [("a", 1), ("f", 3)]), Folder(0, [("l", 2)]), Link(1, "/f/"), File(1)])
        self.reached(tree, Others(5, []), 1, "l", Look(True, True, [1]), ["file"], [])
        self.reached(tree, Others(5, [1]), 1, "l", Look(True, True, [1]), ["none", "owner", "file"], [1])
        other = Tree(tree.nodes[:2] + (Link(1, "/f"),) + tree.nodes[3:])
        self.reached(other, Others(5, [1]), 1, "l", Look(True, True, [1]), [3, "none", "owner"], [1])


class FactTest(unittest.TestCase):
    """If no links are followed and no owners are asked: the walk's own way, then the loose nodes at each name."""

    def test_first_and_later_names(self):
        rng = generator(71)
        checked = {"own": 0, "first": 0, "later": 0}
        for _ in range(400):
            tree = draw_tree(rng, rng.randint(2, 8), kinds="dddf")
            folders = [number for number, node in enumerate(tree.nodes) if isinstance(node, Folder)]
            others = Others(0, rng.sample(folders, rng.randint(1, len(folders))))
            path = Path([rng.choice("abc") for _ in range(rng.randint(1, 3))], False, False)
            found = {told(one) for one in reach(tree, others, 0, path, PLAIN)}
            own = stands(tree, 0, path, PLAIN)[:len(path.steps)]
            stops = [index for index, at in enumerate(own) if at in others.folders]
            free = set(loose(tree, others))
            if not stops:
                checked["own"] += 1
                self.assertEqual(found, {told(walk(tree, 0, path, PLAIN))})
            elif stops[0] < len(path.steps) - 1:
                checked["later"] += 1
                self.assertLessEqual(free, found)
            else:
                checked["first"] += 1
                piece = [one for one in pieces(tree, others) if own[stops[0]] in one][0]
                head = free & set(piece)
                self.assertLessEqual(free - head, found)
                self.assertFalse(head & found)
        self.assertGreater(min(checked.values()), 30)


class TriedTest(unittest.TestCase):
    """Small trees in which all deeds of theirs are tried, with a few names and new nodes."""

    def tried(self, tree, others, names, new, cases, look=PLAIN, texts=(), whole=True):
        known = Tried(tree, others, names, new, texts)
        for place, text in cases:
            with self.subTest((place, text)):
                path = read_path(text)
                results, stood = known.walked(place, path, look)
                found = {told(one) for one in reach(tree, others, place, path, look)}
                at = set(touched(tree, others, place, path, look))
                self.assertLessEqual(results, found)
                self.assertLessEqual(stood & set(others.folders), at)
                if whole:
                    self.assertEqual(found, results)
                    self.assertEqual(at, stood & set(others.folders))

    def test_loose_folders(self):
        tree = Tree([Folder(0, [("a", 1)]), Folder(0, [("b", 2), ("c", 3)]), Folder(0, []), File(0)])
        self.tried(tree, Others(5, [1, 2]), "abc", 1, [(0, "a/b"), (0, "a/b/b"), (0, "a/b/"), (2, ".."), (2, "b"),
                                                      (1, "b/.."), (1, "b/../a"), (0, "b/a"), (2, ".")])
        self.tried(tree, Others(5, [1, 2]), "ab", 2, [(2, "../.."), (1, "b/../..")])

    def test_new_folders_in_new_folders(self):
        tree = Tree([Folder(0, [("a", 1)]), Folder(0, []), File(7)])
        self.tried(tree, Others(7, [1]), "ab", 2, [(0, "a/b/a"), (1, "a/.."), (1, "a/b"), (1, "a/../b"), (1, "..")])

    def test_a_folder_of_another_in_theirs(self):
        tree = Tree([Folder(0, [("a", 1)]), Folder(0, [("b", 2)]), Folder(0, [("c", 3)]), Folder(0, [])])
        self.tried(tree, Others(0, [1, 3]), "abc", 1, [(0, "a/b"), (3, ".."), (3, "a"), (2, "..")])
        # These need two new nodes.
        self.tried(tree, Others(0, [1, 3]), "abc", 1, [(0, "a/b/c"), (1, "a/c/a")], whole=False)

    def test_owners(self):
        tree = Tree([Folder(0, [("a", 1)]), Folder(1, [("b", 2)]), Folder(2, []), File(2), Gone(1, 2)])
        for asked in ([1, 2], [2], [0, 1], [5]):
            self.tried(tree, Others(5, [1, 2]), "abc", 1, [(0, "a/b"), (2, ".."), (1, "a"), (4, ".."), (2, "a")],
                       Look(False, False, asked))

    def test_links_of_the_tree(self):
        tree = Tree([Folder(0, [("a", 1)]), Folder(0, [("b", 2), ("l", 3)]), Folder(0, []), Link(0, "..")])
        for look in (Look(True, True, [0]), Look(True, False, [0])):
            self.tried(tree, Others(5, [1, 2]), "abl", 1, [(0, "a/l"), (0, "a/b/l"), (2, "l/b"), (2, "l/"), (1, "l")],
                       look)

    def test_new_links(self):
        """The tries have a few texts only, so that they do not find all."""
        tree = Tree([Folder(0, [("a", 1)]), Folder(0, []), File(0)])
        self.tried(tree, Others(0, [1]), "ab", 2, [(0, "a/b"), (1, "a/"), (1, "a/b"), (1, "a/..")], ALL,
                   ("/", "b/", "../a", "a"), False)
        self.tried(tree, Others(0, [1]), "ab", 2, [(1, "a")], NEARLY, ("/a",))


class DrawnTest(unittest.TestCase):
    def test_drawn(self):
        """The package and the plain reading agree; every result comes up."""
        rng = generator(72)
        seen = set()
        for _ in range(900):
            tree = draw_tree(rng, rng.randint(1, 7), kinds=rng.choice(["dddf", "dddfg", "dddlf", "ddlf"]))
            links = [node for node in tree.nodes if isinstance(node, Link)]
            if len(links) > 2 or [1 for link in links if len(read_path(link.text).steps) > 2]:
                continue
            folders = [number for number, node in enumerate(tree.nodes) if isinstance(node, Folder)]
            others = Others(rng.randrange(2), rng.sample(folders, rng.randint(0, len(folders))))
            place, path, look = rng.choice(places(tree)), draw_path(rng, 3), draw_look(rng)
            known = PlainReach(tree, others, look).begin(place, path)
            before = Tree(tree.nodes)
            found = [told(result) for result in reach(tree, others, place, path, look)]
            self.assertEqual(found, known.ordered())
            self.assertEqual(touched(tree, others, place, path, look),
                             sorted(at for at in known.stood if at in others.folders))
            self.assertEqual(tree, before)
            seen.update(one for one in found if isinstance(one, str))
        self.assertEqual(seen, set(NEWS) | {"none", "owner", "file", "link", "links"})

    def test_what_the_walk_has_in_the_tree_is_among_the_results(self):
        rng = generator(73)
        for _ in range(300):
            tree = draw_tree(rng, rng.randint(1, 9), kinds="dddfg")
            folders = [number for number, node in enumerate(tree.nodes) if isinstance(node, Folder)]
            others = Others(rng.randrange(2), rng.sample(folders, rng.randint(0, len(folders))))
            place, path, look = rng.choice(places(tree)), draw_path(rng, 8), draw_look(rng)
            found = reach(tree, others, place, path, look)
            self.assertIn(walk(tree, place, path, look), found)
            if not touched(tree, others, place, path, look):
                self.assertEqual(found, [walk(tree, place, path, look)])


class GreatTest(unittest.TestCase):
    def test_large_trees_and_long_paths(self):
        folders = [Folder(0, [("d" + str(k), k) for k in range(1, 58)])] + [Folder(0, []) for _ in range(57)]
        tree = Tree(folders + [Link(0, "d1/x"), Link(0, "/d2/..")])
        path = Path(["a", ".."] * 15, False, True)
        for owner in (0, 1):
            found = reach(tree, Others(owner, range(58)), 0, path, ALL)
            self.assertEqual([told(one) for one in found],
                             list(range(58)) + ["new folder", "none", "file", "links"])
            self.assertEqual(touched(tree, Others(owner, range(58)), 0, path, ALL), list(range(58)))

    def test_links_without_new_ones(self):
        """Only the links of the tree are taken, so that they are counted up to eight."""
        entries = [("d" + str(k), k) for k in range(1, 60)]
        tree = Tree([Folder(0, entries)] + [Folder(0, []) for _ in range(57)] + [Link(0, "d1/x"), Link(0, "/d2/..")])
        found = reach(tree, Others(1, range(58)), 0, Path(["a"] * 30, False, True), Look(True, True, [0]))
        self.assertEqual([told(one) for one in found], list(range(58)) + ["none", "owner", "links"])


class ErrorsTest(unittest.TestCase):
    def refused(self, others, place, number):
        for function in (reach, touched):
            for text in ("a", "/", "."):
                with self.assertRaises(NoNode) as caught:
                    function(sample(), others, place, read_path(text), PLAIN)
                self.assertIs(caught.exception.node, number)

    def test_folders_of_the_others_come_first(self):
        for number in NO_NUMBERS + [-1, 13, 10 ** 30, 4, 8, 12]:
            self.refused(Others(5, [1, number, None]), 0, number)
            self.refused(Others(5, [number]), 99, number)

    def test_then_the_place(self):
        for place in NO_NUMBERS + [-1, 13, 10 ** 30, 4, 5, 12]:
            self.refused(THEIRS, place, place)
            self.refused(Others(5, []), place, place)


if __name__ == "__main__":
    unittest.main()
