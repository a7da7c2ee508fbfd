"""Point [19]: certificates, and what holds."""

import unittest

from namewalk.certificates import Certificate, certificate, holds
from namewalk.deeds import MakeFile, MakeFolder, MakeLink, Move, Put, Take
from namewalk.errors import NoNode
from namewalk.leading import Leader
from namewalk.others import Others
from namewalk.paths import Path, read_path
from namewalk.processes import Done, Made
from namewalk.reaching import New, reach
from namewalk.trees import File, Folder, Link, Tree
from namewalk.walking import Came, Look, Refused, begun
from tests.drawn import draw_look, draw_path, draw_tree, generator, places
from tests.plain_play import PlainPlay, most_deeds
from tests.plain_reach import NEW, WORDS, PlainReach, told
from tests.samples import INTERFACE_OBJECTS, NO_NUMBERS, THEIRS, sample

PLAIN = Look(False, False, None)
NEARLY = Look(True, False, None)
ALL = Look(True, True, None)


def all_results(tree):
    """All results that there can be, and some that there can never be."""
    ends = [Came(number) for number in range(len(tree.nodes) + 2)] + [New(kind) for kind in NEW]
    return ends + [Refused(why) for why in WORDS + ["name", "gone", "busy", ""]] + [Done(), Made(0, 0)]


class Checked(unittest.TestCase):
    def certified(self, tree, others, place, path, look):
        """There is a certificate that can be played for each result of reach, and none for all others."""
        if isinstance(path, str):
            path = read_path(path)
        asked = (tree, others, place, path, look)
        known = reach(*asked)
        for result in all_results(tree):
            found = certificate(*asked, result)
            if result not in known:
                self.assertIsNone(found)
                continue
            self.assertIsInstance(found, Certificate)
            self.assertIsInstance(found.parts, tuple)
            self.assertEqual(PlainPlay(*asked).played(found.parts), told(result))
            self.assertLessEqual(most_deeds(found.parts), 4)
            self.assertIs(holds(*asked, result, found), True)
            self.assertEqual(certificate(*asked, result), found)
        return [told(result) for result in known]


class CertificateTest(unittest.TestCase):
    def test_fields(self):
        parts = [Take(0, "a"), "look"]
        one = Certificate(parts)
        parts.append("look")
        self.assertEqual(vars(one), {"parts": (Take(0, "a"), "look")})
        self.assertEqual(Certificate(parts=()).parts, ())
        self.assertEqual(Certificate(("look",)).parts, ("look",))

    def test_equality(self):
        ones = [[], ["look"], ["look", "look"], [Take(0, "a"), "look"], ["look", Take(0, "a")], [Take(0, "b"), "look"],
                [Take(1, "a"), "look"], [Put(0, "a", 1), "look"], [MakeFile(0, "a", 1), "look"],
                [MakeFolder(0, "a", 1), "look"], [MakeLink(0, "a", 1, "x"), "look"], [MakeLink(0, "a", 1, "y"), "look"],
                [Move(0, "a", 1, "b"), "look"], [Move(0, "a", 1, "c"), "look"]]
        for i, one in enumerate(ones):
            for j, other in enumerate(ones):
                self.assertIs(Certificate(one) == Certificate(tuple(other)), i == j)
                self.assertIs(Certificate(one) != Certificate(tuple(other)), i != j)
        for other in INTERFACE_OBJECTS + [None, (), ("look",), ["look"], "look"]:
            if other.__class__ != Certificate:
                for one in (Certificate([]), Certificate(["look"])):
                    self.assertIs(one == other, False)
                    self.assertIs(other == one, False)


class FoundTest(Checked):
    def test_a_folder_that_is_not_theirs(self):
        asked = (sample(), Others(5, []), 0, read_path("a/b"), PLAIN)
        self.assertEqual(certificate(*asked, Came(2)), Certificate(["look", "look"]))
        self.assertIsNone(certificate(*asked, Came(3)))
        self.assertEqual(self.certified(sample(), THEIRS, 0, "o/i", PLAIN), [5])
        self.assertEqual(self.certified(sample(), THEIRS, 0, "f/x", PLAIN), ["file"])

    def test_names(self):
        for place in (0, 1, 2, 3, 6, 8, 11):
            for text in ("b", "z", "a/b", "a/b/d", "a/b/d/e", "c/d/e/x", "x/y/", "/a/x/..", "e/"):
                for look in (PLAIN, ALL, NEARLY):
                    self.certified(sample(), THEIRS, place, text, look)

    def test_up(self):
        for place in (1, 2, 3, 6, 7, 8, 11):
            for text in ("..", "../..", "../x", "x/..", "x/../..", "x/../x/..", "../../../x"):
                self.certified(sample(), THEIRS, place, text, PLAIN)

    def test_paths_without_steps(self):
        for place in places(sample()):
            for text, end in ((".", place), ("/", 0), ("./", place), ("//.", 0)):
                for look in (PLAIN, ALL, Look(True, True, [])):
                    asked = (sample(), THEIRS, place, read_path(text), look)
                    self.assertEqual(certificate(*asked, Came(end)), Certificate([]))
                    self.assertEqual(self.certified(*asked), [end])

    def test_names_that_are_taken_already(self):
        """Whatever names a certificate takes, a stranger's file may have them in all their folders."""
        taken = []
        for _ in range(4):
            entries = [(name, 6) for name in sorted(set(taken) - {"a", "b", "c", "d", "g"})]
            tree = Tree([Folder(0, [("a", 1), ("d", 5)] + entries), Folder(0, [("b", 2), ("g", 4)] + entries),
                         Folder(0, [("c", 3)] + entries), Folder(0, entries), File(5), Folder(0, entries), File(9)])
            others = Others(5, [0, 1, 2, 3])
            for text in ("x", "..", "x/y", "../x", "x/.."):
                for place in (0, 3):
                    asked = (tree, others, place, read_path(text), Look(True, True, None))
                    self.certified(*asked)
                    for result in reach(*asked):
                        for part in certificate(*asked, result).parts:
                            if part != "look":
                                taken.extend([part.name, getattr(part, "other", "b")])
                                if isinstance(part, MakeLink):
                                    taken.extend(read_path(part.text).steps)
            taken = [name for name in taken if name != ".."]
        self.assertGreater(len(set(taken)), 7)

    def test_the_name_of_the_step_is_taken_in_every_way(self):
        """By a folder of theirs, one of another, a file of theirs and of another, links, and by nothing."""
        nodes = [Folder(0, [("a", 1), ("p", 7)]), Folder(0, [("b", 2), ("c", 3), ("d", 4), ("e", 5), ("f", 6)]),
                 Folder(0, []), Folder(0, []), File(5), File(0), Link(0, "/a"), Folder(0, [("q", 4), ("r", 5)])]
        for name in "bcdefg":
            for look in (PLAIN, ALL):
                self.certified(Tree(nodes), Others(5, [1, 2]), 1, name, look)
                self.certified(Tree(nodes), Others(5, [1, 2, 7]), 1, name + "/x", look)

    def test_files_and_links_in_one_in_several_and_in_no_entries(self):
        for make in (File, lambda owner: Link(owner, "/a/b")):
            tree = Tree([Folder(0, [("a", 1), ("b", 2), ("c", 3), ("d", 3), ("e", 7)]),
                         Folder(0, [("e", 5), ("f", 6), ("g", 7), ("h", 6)]), make(5), make(5), make(5), make(5),
                         make(0), make(0), make(0)])
            for owner, expected in ((5, [2, 3, 4, 5, 6, 7]), (7, [5, 6, 7]), (0, [5, 6, 7, 8])):
                found = self.certified(tree, Others(owner, [1]), 1, "x", PLAIN)
                self.assertEqual(found, expected + list(NEW.values()) + ["none"])
                self.certified(tree, Others(owner, [1]), 1, "x/../x", PLAIN)

    def test_folders_that_are_cut_loose_from_below_one_another(self):
        """The walk stands in the lowest one, and finds the highest one there."""
        nodes = [Folder(0, [("a", 1)])] + [Folder(0, [("a", k + 1)]) for k in range(1, 6)] + [Folder(0, [])]
        for theirs in ([0, 1, 2, 3, 4, 5, 6], [1, 3, 4, 6], [1, 2, 4, 6], [6, 5, 1, 0], [3, 4, 5, 6]):
            for place in (1, 4, 6):
                for text in ("x", "..", "x/y", "x/../y", "../../x", "a/a/..", "x/x/x/..", "../x/../x"):
                    self.certified(Tree(nodes), Others(3, theirs), place, text, PLAIN)

    def test_new_nodes_where_others_were_made_before(self):
        """The name of the step is that of a node which the certificate has made itself, of another kind."""
        tree = Tree([Folder(0, [("a", 1)]), Folder(0, [])])
        for text in ("x", "x/../x", "y/../x/../x", "z/../y/../x/../x", "w/../z/../y/../x/../x", "x/../x/../x/../x/"):
            for look in (PLAIN, ALL, NEARLY):
                self.certified(tree, Others(5, [1]), 1, text, look)
                self.certified(tree, Others(5, [1]), 1, text + "/..", look)

    def test_three_deeds_before_a_look(self):
        """1 stands above 3, where it has to come, under a name that a file of another has."""
        tree = Tree([Folder(0, [("a", 1)]), Folder(0, [("b", 2)]), Folder(0, [("c", 3)]), Folder(0, [("x", 4)]),
                     File(1)])
        others = Others(0, [0, 1, 2, 3])
        found = certificate(tree, others, 3, read_path("x"), PLAIN, Came(1))
        self.assertEqual(PlainPlay(tree, others, 3, read_path("x"), PLAIN).played(found.parts), 1)
        self.certified(tree, others, 3, "x", PLAIN)

    def test_deep_chains_with_walks_up_and_down(self):
        nodes = [Folder(0, [("a", k + 1)]) for k in range(58)] + [Folder(0, [("f", 59)]), File(2)]
        down, up = ["a"] * 15, [".."] * 15
        for theirs in (range(59), range(0, 59, 7), [57, 40, 3], [58]):
            others = Others(1, theirs)
            paths = (Path(down + up, False, True), Path(up + down, False, True), Path(["a", ".."] * 15, True, True))
            for path in paths:
                asked = (Tree(nodes), others, 40, path, PLAIN)
                for result in reach(*asked)[::9] + reach(*asked)[-3:]:
                    found = certificate(*asked, result)
                    self.assertEqual(PlainPlay(*asked).played(found.parts), told(result))
                    self.assertLessEqual(most_deeds(found.parts), 4)
                    self.assertIs(holds(*asked, result, found), True)

    def test_a_result_that_is_none_of_the_tree(self):
        for result in (Came(13), Came(-1), Came(99), Refused("gone"), Refused("name"), Done(), Made(0, 0), New("tree")):
            self.assertIsNone(certificate(sample(), THEIRS, 1, read_path("x"), PLAIN, result))

    def test_nothing_is_changed(self):
        tree, others, path, look = sample(), Others(5, [1, 2, 6]), read_path("a/x/.."), Look(True, True, [5, 6])
        for result in all_results(tree):
            certificate(tree, others, 0, path, look, result)
        self.assertEqual((tree, others, path, look),
                         (sample(), THEIRS, read_path("a/x/.."), Look(True, True, [5, 6])))

    def test_others_who_are_asked_of_two_trees_by_turns(self):
        other = Tree([Folder(0, [("a", 1), ("b", 2)]), Folder(0, [("c", 6), ("d", 3), ("e", 4), ("f", 5)])] +
                     [Folder(0, []) for _ in range(5)])
        found = [certificate(tree, THEIRS, 1, read_path("x/.."), PLAIN, Came(6))
                 for tree in (sample(), other, sample(), other)]
        self.assertEqual(found[:2], found[2:])
        self.assertNotEqual(found[0], found[1])


class LinksTest(Checked):
    def tree(self, text="x/..", other="/b"):
        return Tree([Folder(0, [("a", 1), ("b", 2), ("f", 3), ("l", 4)]), Folder(0, [("c", 5), ("m", 6)]),
                     Folder(0, [("x", 7)]), File(0), Link(0, text), Folder(0, []), Link(1, other), Folder(0, [])])

    def test_texts_up_down_and_from_the_root(self):
        for text, other in (("x/..", "/b"), ("..", "a/"), ("/", "../x"), (".", "/f"), ("/l", "m/.."), ("../..", "l")):
            for theirs in ([1, 5], [1, 2, 5, 7], [0, 1], []):
                for path in ("a/m", "l/x", "a/m/x", "a/c/l/..", "l", "l/"):
                    for look in (ALL, NEARLY):
                        self.certified(self.tree(text, other), Others(1, theirs), 0, path, look)

    def test_new_links(self):
        """They lead up, down and from the root, and to files and folders that stand nowhere near."""
        self.assertIn(3, self.certified(self.tree(), Others(9, [5]), 0, "a/c/x", ALL))
        self.assertIn(7, self.certified(self.tree(), Others(9, [5]), 5, "x/", NEARLY))
        self.assertNotIn(7, self.certified(self.tree(), Others(9, [5]), 5, "x", NEARLY))
        found = certificate(self.tree(), Others(9, [5]), 5, read_path("x"), ALL, Came(7))
        self.assertTrue([part for part in found.parts if isinstance(part, MakeLink)])

    def test_new_links_whose_texts_lead_up(self):
        """The way from the root is barred by an owner, or there is none but through names of theirs."""
        chain = [Folder(0, [("a", 1)]), Folder(1, [("b", 2)]), Folder(2, [("c", 3)]), Folder(2, [("d", 4)]),
                 Folder(2, [])]
        for theirs in ([4], [4, 3], [2, 4], [1, 2, 3, 4]):
            for path in ("x", "x/d", "x/..", "x/../y/"):
                self.certified(Tree(chain), Others(5, theirs), 4, path, Look(True, True, [2, 5]))
                self.certified(Tree(chain), Others(2, theirs), 4, path, Look(True, False, [2]))

    def test_the_ninth_link(self):
        tree = Tree([Folder(0, [("a", 1)]), Folder(0, [("l", 2)]), Link(1, ".")])
        for look in (Look(True, True, [1]), Look(True, False, [1]), ALL):
            for many in (8, 9, 10):
                for owner in (1, 5):
                    found = self.certified(tree, Others(owner, [1]), 1, "/".join(["l"] * many), look)
                    most = 8 if look.last else 9
                    self.assertEqual("links" in found, look == ALL or owner == 1 or many > most)
        asked = (Tree([Folder(5, [])]), Others(5, [0]), 0, read_path("x"), ALL)
        found = certificate(*asked, Refused("links"))
        self.assertIs(holds(*asked, Refused("links"), found), True)

    def test_rings_of_links(self):
        tree = Tree([Folder(0, [("a", 1)]), Folder(0, [("l", 2), ("m", 3)]), Link(1, "m"), Link(1, "l")])
        for owner in (1, 5):
            self.certified(tree, Others(owner, [1]), 1, "l", Look(True, True, [1]))
            self.certified(tree, Others(owner, []), 1, "l", Look(True, True, [1]))
            self.certified(tree, Others(owner, [0, 1]), 0, "l/m", ALL)

    def test_owners_are_asked(self):
        for asked in ([], [0], [1], [9], [0, 9], [1, 9], [0, 1], [0, 1, 9]):
            for look in (Look(True, True, asked), Look(False, False, asked)):
                for owner in (0, 1, 9):
                    self.certified(self.tree(), Others(owner, [1, 5, 2]), 1, "x/..", look)
                    self.certified(self.tree(), Others(owner, [1, 5]), 0, "a/m/x", look)

    def test_thirty_steps(self):
        nodes = [Folder(0, [("d%d" % k, k) for k in range(1, 11)])]
        nodes += [Folder(k % 3, [("e", k + 10)]) for k in range(1, 11)] + [Folder(0, []) for _ in range(10)]
        nodes += [Link(0, "../e"), Link(1, "/d1")]
        for theirs in ([1, 11, 2], range(21)):
            for path in (Path(["d1", "e", ".."] * 10, False, True), Path(["x"] * 30, True, False),
                         Path(["d2", "..", "x"] * 10, False, False)):
                for look in (ALL, PLAIN, Look(True, True, [0, 1])):
                    asked = (Tree(nodes), Others(1, theirs), 0, path, look)
                    for result in reach(*asked)[::4]:
                        found = certificate(*asked, result)
                        self.assertEqual(PlainPlay(*asked).played(found.parts), told(result))
                        self.assertLessEqual(most_deeds(found.parts), 4)


class LeaderTest(unittest.TestCase):
    def led(self, text, plan, result):
        tree, others, path = Tree([Folder(0, []), File(0)]), Others(0, [0]), read_path(text)
        leader = Leader(tree, others)
        leader.leads(begun(0, path, ALL), plan, ["folder", "file", "folder", "file", "link"])
        self.assertEqual(PlainPlay(tree, others, 0, path, ALL).played(leader.parts), told(result))
        self.assertIs(holds(tree, others, 0, path, ALL, result, Certificate(leader.parts)), True)

    def test_plans_with_new_nodes_at_the_same_name(self):
        """The first and the third node that are made have the numbers by which plans tell new folders and links."""
        here, below = read_path("."), read_path("f")
        self.led("x/x/x/x", [(4, here), (4, here), (4, here), (4, below), (1, None)], Came(1))
        self.led("x/x", [(4, here), (2, None)], New("folder"))
        self.led("x/x/x", [(4, here), (4, here), (3, None)], New("file"))


class DrawnTest(Checked):
    def drawn(self, number, many, sizes, most, kinds):
        rng = generator(number)
        seen = set()
        for _ in range(many):
            tree = draw_tree(rng, rng.randint(*sizes), kinds=rng.choice(kinds))
            links = [node for node in tree.nodes if isinstance(node, Link)]
            if len(links) > 2 or [1 for link in links if len(read_path(link.text).steps) > 2]:
                continue
            folders = [number for number, node in enumerate(tree.nodes) if isinstance(node, Folder)]
            others = Others(rng.randrange(3), rng.sample(folders, rng.randint(0, len(folders))))
            asked = (tree, others, rng.choice(places(tree)), draw_path(rng, most), draw_look(rng, 3))
            before = Tree(tree.nodes)
            found = self.certified(*asked)
            self.assertEqual(tree, before)
            if len(tree.nodes) < 8 and most < 5:
                self.assertEqual(found, PlainReach(tree, others, asked[4]).begin(asked[2], asked[3]).ordered())
            seen.update(one for one in found if isinstance(one, str))
        return seen

    def test_small_trees(self):
        seen = self.drawn(81, 700, (1, 7), 4, ["dddf", "dddfg", "dddlf", "ddlf", "ddddl"])
        self.assertEqual(seen, set(NEW.values()) | set(WORDS))

    def test_folders_alone(self):
        self.drawn(82, 150, (5, 10), 6, ["d", "dddg"])

    def test_larger_trees(self):
        self.drawn(83, 40, (12, 25), 12, ["ddddf", "dddddfgl"])


class HoldsTest(unittest.TestCase):
    """The walk a/b/x; folder 1 is theirs, and 2, which stands in it."""

    def holds(self, parts, result, expected, path="a/b/x", tree=None, others=Others(5, [1, 2]), place=0, look=PLAIN):
        tree = tree or Tree([Folder(0, [("a", 1), ("o", 4)]), Folder(0, [("b", 2), ("c", 3), ("g", 5)]), Folder(0, []),
                             Folder(0, []), File(0), File(5)])
        asked = (tree, others, place, read_path(path), look)
        for row in (list(parts), tuple(parts)):
            self.assertIs(holds(*asked, result, Certificate(row)), expected)
        played = PlainPlay(*asked).played(list(parts))
        self.assertIs(played is not None and played == told(result), expected)

    def test_written_by_hand(self):
        self.holds(["look", "look", "look"], Refused("none"), True)
        self.holds(["look", "look", MakeFile(2, "x", 5), "look"], New("file"), True)
        self.holds([MakeFolder(2, "x", 5), "look", "look", "look"], New("folder"), True)
        self.holds(["look", MakeLink(2, "x", 5, "/a"), "look", "look"], New("link"), True)
        self.holds([Move(1, "g", 2, "x"), "look", "look", "look"], Came(5), True)
        self.holds([Take(1, "g"), "look", "look", Put(2, "x", 5), "look"], Came(5), True)
        self.holds([Take(1, "b"), "look", "look"], Refused("none"), True)
        self.holds([Move(1, "g", 1, "h"), Move(1, "b", 1, "z"), Move(1, "h", 1, "b"), "look", "look"],
                   Refused("file"), True)

    def test_more_than_four_deeds(self):
        row = [deed for k in range(30) for deed in (MakeFile(1, "x", 5), Take(1, "x"))]
        self.holds(row + ["look", "look", "look"], Refused("none"), True)

    def test_a_look_too_few(self):
        for parts in ([], ["look"], ["look", "look"], [MakeFile(2, "x", 5), "look", "look"]):
            for result in (Refused("none"), Came(0), Came(1), Came(2), New("file")):
                self.holds(parts, result, False)

    def test_a_look_too_many(self):
        self.holds(["look"] * 4, Refused("none"), False)
        self.holds([Take(1, "b"), "look", "look", "look"], Refused("none"), False)
        self.holds(["look", "look", MakeFile(2, "x", 5), "look", "look"], New("file"), False)

    def test_a_deed_at_the_end(self):
        self.holds(["look", "look", "look", Take(1, "g")], Refused("none"), False)
        self.holds(["look", "look", MakeFile(2, "x", 5), "look", Take(2, "x")], New("file"), False)

    def test_a_deed_that_they_may_not_do(self):
        for deed in (MakeFile(2, "x", 4), MakeFile(0, "x", 5), Take(0, "o"), Put(2, "y", 4), Take(1, "c"),
                     Move(1, "c", 2, "c"), MakeFolder(3, "x", 5), Move(0, "o", 1, "o"), Move(1, "g", 0, "g")):
            self.holds(["look", "look", deed, "look"], Refused("none"), False)
            self.holds([deed, "look", "look", "look"], Refused("none"), False)
        self.holds([Move(1, "c", 1, "d"), "look", "look", "look"], Refused("none"), True)

    def test_a_deed_that_cannot_be_done(self):
        for deed in (Take(2, "x"), MakeFile(1, "b", 5), MakeFile(1, "B", 5), MakeLink(2, "x", 5, ""), Put(2, "x", 1),
                     Move(1, "b", 2, "b"), MakeFile(99, "x", 5), MakeFile(None, "x", 5), Take(5, "x"),
                     MakeFile(2, None, 5), MakeFile(2, "x", -1)):
            self.holds([deed, "look", "look", "look"], Refused("none"), False)
            self.holds(["look", "look", deed, "look"], Refused("none"), False)

    def test_another_result(self):
        for result in (Came(2), Refused("file"), New("file"), Came(0), Done(), Made(0, 0)):
            self.holds_not(["look"] * 3, result)
        parts = [MakeFile(2, "x", 5)] + ["look"] * 3
        for result in (Came(6), New("folder"), New("link"), Refused("none"), Came(5)):
            self.holds_not(parts, result)

    def holds_not(self, parts, result):
        tree = Tree([Folder(0, [("a", 1), ("o", 4)]), Folder(0, [("b", 2), ("c", 3), ("g", 5)]), Folder(0, []),
                     Folder(0, []), File(0), File(5)])
        found = holds(tree, Others(5, [1, 2]), 0, read_path("a/b/x"), PLAIN, result, Certificate(parts))
        self.assertIs(found, False)

    def test_new_folders_are_theirs(self):
        parts = [MakeFolder(2, "x", 5), MakeFile(6, "y", 5), MakeFolder(6, "z", 5), MakeLink(8, "l", 5, ".."),
                 Move(6, "y", 8, "y"), "look", "look", "look"]
        self.holds(parts, New("folder"), True)
        self.holds([Move(1, "b", 1, "p"), MakeFolder(1, "b", 5), Move(1, "p", 6, "x"), "look", "look", "look"],
                   Came(2), True)
        # Files and links are no folders of theirs.
        self.holds([MakeFile(2, "x", 5), MakeFile(6, "y", 5), "look", "look", "look"], New("file"), False)

    def test_folders_that_are_gone_are_theirs_no_more(self):
        self.holds([Take(1, "b"), MakeFile(2, "x", 5), "look", "look"], Refused("none"), False)
        self.holds([MakeFolder(1, "n", 5), Take(1, "n"), "look", "look", "look"], Refused("none"), True)
        self.holds([MakeFolder(1, "n", 5), Take(1, "n"), MakeFile(6, "x", 5), "look", "look", "look"],
                   Refused("none"), False)
        # The walk stands at 2, which goes then.
        self.holds(["look", "look", Take(1, "b"), "look"], Refused("none"), True)

    def test_a_new_folder_that_is_gone_by_then(self):
        """The walk stands in it while it goes, and comes back to it from below."""
        make = [MakeFolder(2, "x", 5), "look", "look", "look"]
        self.holds(make + [Take(2, "x"), "look"], Came(2), True, path="a/b/x/..")
        self.holds(make + [MakeFolder(6, "y", 5), "look", Take(6, "y"), Take(2, "x"), "look"], New("folder"), True,
                   path="a/b/x/y/..")
        self.holds(make + [MakeFolder(6, "y", 5), "look", Take(6, "y"), Take(2, "x"), "look", "look"], Came(2), True,
                   path="a/b/x/y/../..")

    def test_a_folder_of_the_tree_that_is_gone_by_then(self):
        tree = Tree([Folder(0, [("a", 1)]), Folder(0, [("b", 2)]), Folder(0, [])])
        self.holds(["look", "look", Take(1, "b"), "look"], Came(1), True, "a/b/..", tree)
        self.holds(["look", "look", MakeFolder(2, "c", 5), "look", Take(2, "c"), Take(1, "b"), "look"], Came(2), True,
                   "a/b/c/..", tree)

    def test_paths_without_steps(self):
        self.holds([], Came(0), True, path=".")
        self.holds([], Came(0), True, path="/", place=2)
        self.holds([], Came(2), True, path=".", place=2)
        self.holds([], Came(2), False, path="/", place=2)
        for parts in (["look"], [MakeFile(1, "x", 5)], [MakeFile(1, "x", 5), "look"], ["look", "look"]):
            self.holds(parts, Came(0), False, path=".")

    def test_links_that_others_make(self):
        """Texts of any length, and more than two links."""
        self.holds([MakeLink(2, "x", 5, "/a/c/../" + "b/../" * 40 + "g")] + ["look"] * 87, Came(5), True, look=ALL)
        row = [MakeLink(2, "x%d" % k, 5, "x%d" % (k + 1)) for k in range(9)] + [Move(2, "x0", 2, "x")]
        self.holds(row + ["look"] * 11, Refused("links"), True, look=ALL)
        self.holds(row + ["look"] * 10, Refused("links"), False, look=ALL)
        self.holds(row + [Take(2, "x8"), MakeFile(2, "x8", 5)] + ["look"] * 11, New("file"), True, look=ALL)

    def test_owners_are_asked(self):
        look = Look(False, False, [0])
        self.holds([MakeFile(2, "x", 5)] + ["look"] * 3, Refused("owner"), True, look=look)
        self.holds([MakeFile(2, "x", 5)] + ["look"] * 3, New("file"), False, look=look)

    def test_drawn_parts(self):
        """Certificates from which a part is taken, or into which one is put."""
        rng = generator(84)
        seen = {True: 0, False: 0}
        for _ in range(80):
            tree = draw_tree(rng, rng.randint(2, 7), kinds="dddf")
            folders = [number for number, node in enumerate(tree.nodes) if isinstance(node, Folder)]
            others = Others(rng.randrange(2), rng.sample(folders, rng.randint(1, len(folders))))
            asked = (tree, others, rng.choice(folders), draw_path(rng, 3, least=1), draw_look(rng))
            for result in reach(*asked):
                parts = list(certificate(*asked, result).parts)
                for index in range(len(parts) + 1):
                    for changed in (parts[:index] + parts[index + 1:], parts[:index] + ["look"] + parts[index:],
                                    parts[:index] + [MakeFolder(others.folders[0], "q", others.owner)] + parts[index:]):
                        played = PlainPlay(*asked).played(changed)
                        expected = played is not None and played == told(result)
                        self.assertIs(holds(*asked, result, Certificate(changed)), expected)
                        seen[expected] += 1
        self.assertGreater(min(seen.values()), 500)


class ErrorsTest(unittest.TestCase):
    def refused(self, others, place, number):
        for text in ("a", "/", "."):
            asked = (sample(), others, place, read_path(text), PLAIN)
            for call in (lambda: certificate(*asked, Came(0)), lambda: certificate(*asked, Came(99)),
                         lambda: holds(*asked, Came(0), Certificate([])),
                         lambda: holds(*asked, 0, Certificate(["look"]))):
                with self.assertRaises(NoNode) as caught:
                    call()
                self.assertIs(caught.exception.node, number)

    def test_folders_of_the_others_come_first(self):
        for number in NO_NUMBERS + [-1, 13, 10 ** 30, 4, 8, 12]:
            self.refused(Others(5, [1, number, None]), 0, number)
            self.refused(Others(5, [number]), 99, number)

    def test_then_the_place(self):
        for place in NO_NUMBERS + [-1, 13, 10 ** 30, 4, 5, 12]:
            self.refused(THEIRS, place, place)
            self.refused(Others(5, []), place, place)


if __name__ == "__main__":
    unittest.main()
