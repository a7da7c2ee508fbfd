"""Points [7] and [8]: looks, walks, what they stand at, NoOwner and NoNode."""

import unittest

from namewalk.errors import NoNode, NoOwner
from namewalk.paths import Path, read_path
from namewalk.trees import File, Folder, Gone, Link, Tree
from namewalk.walking import Came, Look, Refused, stands, walk
from tests.drawn import draw_look, draw_path, draw_tree, generator, places
from tests.plain import plain, plain_walk
from tests.samples import INTERFACE_OBJECTS, NO_NUMBERS, NO_OWNERS

PLAIN = Look(False, False, None)
NEARLY = Look(True, False, None)
ALL = Look(True, True, None)
# Follows no links, but asks for them at the last step: this means nothing.
ONLY_LAST = Look(False, True, None)


def sample():
    return Tree([
        Folder(0, [("a", 1), ("f", 2), ("g", 2)]),
        Folder(1, [("b", 3), ("f", 4), ("x", 2)]),
        File(0),
        Folder(2, [("c", 5)]),
        File(1),
        Folder(3, []),
        Gone(4, 7),
        Gone(5, 3),
    ])


def linked(texts, follows=None):
    """A tree with a folder at 1 and a file at 2 in it, and links l0, l1 .. with these texts, in the root and at 1."""
    links = [("l" + str(k), 3 + k) for k in range(len(texts))]
    return Tree([Folder(0, [("d", 1)] + links), Folder(0, [("f", 2)] + links), File(0)]
                + [Link(0, text) for text in texts])


class Checked(unittest.TestCase):
    def led(self, tree, place, text, look, result, where=None):
        """The walk has this result (a number or a word), and stands at these nodes; also by the plain reading."""
        with self.subTest(text):
            path = read_path(text)
            expected = Refused(result) if isinstance(result, str) else Came(result)
            self.assertEqual(walk(tree, place, path, look), expected)
            if where is not None:
                self.assertEqual(stands(tree, place, path, look), where)
            self.assertEqual(plain_walk(tree, place, path, look).result, plain(expected))


class LookTest(unittest.TestCase):
    def test_fields(self):
        look = Look(True, False, [3, 0, 3])
        self.assertEqual((look.follow, look.last, look.owners), (True, False, (3, 0, 3)))
        self.assertIsInstance(look.owners, tuple)
        self.assertIsNone(Look(False, True, None).owners)
        self.assertEqual(Look(False, False, []).owners, ())

    def test_later_changes_of_lists_have_no_effect(self):
        owners = [1, 2]
        look = Look(True, True, owners)
        owners.append(3)
        self.assertEqual(look.owners, (1, 2))

    def test_no_owner(self):
        for owner in NO_OWNERS:
            with self.subTest(repr(owner)):
                for owners in ([owner], (owner,), [0, owner], [owner, -7], (1, 2, owner, None)):
                    with self.assertRaises(NoOwner) as caught:
                        Look(True, True, owners)
                    self.assertIs(caught.exception.owner, owner)

    def test_great_owners(self):
        self.assertEqual(Look(False, False, [10 ** 40, 0]).owners, (10 ** 40, 0))

    def test_equality(self):
        ones = [Look(True, True, None), Look(False, True, None), Look(True, False, None), Look(True, True, []),
                Look(True, True, [0]), Look(True, True, [0, 1]), Look(True, True, [1, 0]), Look(True, True, [0, 0, 1]),
                Came(0), Came(1), Refused("none"), Refused("file")]
        for i, one in enumerate(ones):
            for j, other in enumerate(ones):
                self.assertIs(one == other, i == j)
                self.assertIs(one != other, i != j)
        self.assertEqual(Look(True, True, [0, 1]), Look(True, True, (0, 1)))
        self.assertEqual((Came(7), Refused("x")), (Came(7), Refused("x")))

    def test_never_equal_to_others(self):
        for one in (PLAIN, Came(0), Came(None), Refused("none"), Refused(None)):
            for other in INTERFACE_OBJECTS + [None, 0, "none", (), (0,), ("none",), {"node": 0}, object()]:
                if other.__class__ != one.__class__:
                    self.assertIs(one == other, False)
                    self.assertIs(other == one, False)
                    self.assertIs(one != other, True)


class NamesTest(Checked):
    def test_names_that_are_there(self):
        self.led(sample(), 0, "a", PLAIN, 1, [0, 1])
        self.led(sample(), 0, "a/b", PLAIN, 3, [0, 1, 3])
        self.led(sample(), 0, "a/b/c", PLAIN, 5, [0, 1, 3, 5])
        self.led(sample(), 1, "b/c/", PLAIN, 5, [1, 3, 5])
        self.led(sample(), 0, "a/f", PLAIN, 4, [0, 1, 4])
        self.led(sample(), 0, "a/x", PLAIN, 2, [0, 1, 2])
        self.led(sample(), 0, "f", PLAIN, 2, [0, 2])
        self.led(sample(), 0, "g", PLAIN, 2, [0, 2])

    def test_names_that_are_missing(self):
        self.led(sample(), 0, "b", PLAIN, "none", [0])
        self.led(sample(), 0, "a/a", PLAIN, "none", [0, 1])
        self.led(sample(), 0, "a/b/c/d/e", PLAIN, "none", [0, 1, 3, 5])
        self.led(sample(), 5, "a", PLAIN, "none", [5])

    def test_absolute_paths_begin_at_the_root(self):
        for place in (0, 1, 3, 5, 6, 7):
            self.led(sample(), place, "/a/b", PLAIN, 3, [0, 1, 3])
            self.led(sample(), place, "/b", PLAIN, "none", [0])

    def test_paths_without_steps(self):
        for place in (0, 1, 3, 5, 6, 7):
            self.led(sample(), place, ".", PLAIN, place, [place])
            self.led(sample(), place, "./.", ALL, place, [place])
            self.led(sample(), place, "/", PLAIN, 0, [0])
            self.led(sample(), place, ".", Look(True, True, []), place, [place])
            self.led(sample(), place, "/.", Look(True, True, []), 0, [0])

    def test_files_are_no_folders(self):
        self.led(sample(), 0, "f/a", PLAIN, "file", [0])
        self.led(sample(), 0, "f/", PLAIN, "file", [0])
        self.led(sample(), 0, "f/.", PLAIN, "file", [0])
        self.led(sample(), 0, "f/..", PLAIN, "file", [0])
        self.led(sample(), 0, "a/f/x", PLAIN, "file", [0, 1])
        self.led(sample(), 0, "a/x/", ALL, "file", [0, 1])
        self.led(sample(), 0, "a/x", ALL, 2, [0, 1, 2])

    def test_up(self):
        self.led(sample(), 0, "..", PLAIN, 0, [0, 0])
        self.led(sample(), 0, "../../..", PLAIN, 0, [0, 0, 0, 0])
        self.led(sample(), 0, "/../a", PLAIN, 1, [0, 0, 1])
        self.led(sample(), 5, "..", PLAIN, 3, [5, 3])
        self.led(sample(), 5, "../../../..", PLAIN, 0, [5, 3, 1, 0, 0])
        self.led(sample(), 1, "../a", PLAIN, 1, [1, 0, 1])
        self.led(sample(), 3, "../f", PLAIN, 4, [3, 1, 4])

    def test_gone_folders(self):
        self.led(sample(), 7, "..", PLAIN, 3, [7, 3])
        self.led(sample(), 6, "..", PLAIN, 7, [6, 7])
        self.led(sample(), 6, "../../c", PLAIN, 5, [6, 7, 3, 5])
        self.led(sample(), 6, "a", PLAIN, "none", [6])
        self.led(sample(), 6, "../c", PLAIN, "none", [6, 7])
        ring = Tree([Folder(0, []), Gone(0, 2), Gone(0, 1)])
        self.led(ring, 1, "../../..", PLAIN, 2, [1, 2, 1, 2])

    def test_where_it_stands_is_a_new_list(self):
        tree = sample()
        found = stands(tree, 0, read_path("a/b"), PLAIN)
        self.assertIsInstance(found, list)
        found.clear()
        self.assertEqual(stands(tree, 0, read_path("a/b"), PLAIN), [0, 1, 3])


class LinksTest(Checked):
    def test_links_behind_which_steps_are_left(self):
        tree = linked(["d"])
        self.led(tree, 0, "l0/f", PLAIN, "link", [0])
        self.led(tree, 0, "l0/f", ONLY_LAST, "link", [0])
        self.led(tree, 0, "l0/f", NEARLY, 2, [0, 0, 1, 2])
        self.led(tree, 0, "l0/f", ALL, 2, [0, 0, 1, 2])
        self.led(tree, 0, "l0/..", NEARLY, 0, [0, 0, 1, 0])
        self.led(tree, 0, "l0/x", NEARLY, "none", [0, 0, 1])

    def test_links_at_the_last_step(self):
        tree = linked(["d"])
        self.led(tree, 0, "l0", PLAIN, 3, [0, 3])
        self.led(tree, 0, "l0", ONLY_LAST, 3, [0, 3])
        self.led(tree, 0, "l0", NEARLY, 3, [0, 3])
        self.led(tree, 0, "l0", ALL, 1, [0, 0, 1])

    def test_links_where_a_folder_is_wanted(self):
        tree = linked(["d", "d/f", "d/"])
        for end in ("/", "/."):
            self.led(tree, 0, "l0" + end, PLAIN, "link", [0])
            self.led(tree, 0, "l0" + end, ONLY_LAST, "link", [0])
            self.led(tree, 0, "l0" + end, NEARLY, 1, [0, 0, 1])
            self.led(tree, 0, "l0" + end, ALL, 1, [0, 0, 1])
            self.led(tree, 0, "l1" + end, NEARLY, "file", [0, 0, 1])
            self.led(tree, 0, "l2" + end, NEARLY, 1, [0, 0, 1])
        self.led(tree, 0, "l1", ALL, 2, [0, 0, 1, 2])

    def test_a_text_that_wants_a_folder_makes_the_path_want_one(self):
        tree = linked(["d/f/", "l0", "l3/", "d/f"])
        self.led(tree, 0, "l0", ALL, "file", [0, 0, 1])
        self.led(tree, 0, "l1", ALL, "file", [0, 0, 0, 1])
        # l2 wants a folder, so that l3 is followed, and the file behind it is refused.
        self.led(tree, 0, "l2", ALL, "file", [0, 0, 0, 1])
        self.led(tree, 0, "l3", ALL, 2, [0, 0, 1, 2])
        self.led(tree, 0, "l0", NEARLY, 3, [0, 3])

    def test_the_want_of_a_text_makes_links_behind_it_followed_at_the_last_step(self):
        tree = Tree([Folder(0, [("a", 1), ("b", 2), ("c", 3), ("d", 4)]), Link(0, "b/"), Link(0, "c"), Link(0, "d"),
                     Folder(0, [])])
        self.led(tree, 0, "a/", NEARLY, 4, [0, 0, 0, 0, 4])
        self.led(tree, 0, "a", ALL, 4, [0, 0, 0, 0, 4])
        self.led(tree, 0, "a", NEARLY, 1, [0, 1])

    def test_the_want_of_a_text_does_not_count_if_steps_are_left_behind_the_link(self):
        tree = linked(["d/", ".", "d/."])
        self.led(tree, 0, "l0/f", NEARLY, 2, [0, 0, 1, 2])
        self.led(tree, 0, "l1/d/f", NEARLY, 2, [0, 0, 1, 2])
        self.led(tree, 0, "l2/f", ALL, 2, [0, 0, 1, 2])
        self.led(tree, 0, "l2/l0", NEARLY, 3, [0, 0, 1, 3])

    def test_relative_texts_go_on_where_the_link_stands(self):
        tree = linked(["f", "../d/f", ".."])
        self.led(tree, 0, "l0", ALL, "none", [0, 0])
        self.led(tree, 0, "d/l0", ALL, 2, [0, 1, 1, 2])
        self.led(tree, 1, "l1", ALL, 2, [1, 1, 0, 1, 2])
        self.led(tree, 1, "l2", ALL, 0, [1, 1, 0])
        self.led(tree, 1, "l2/d", NEARLY, 1, [1, 1, 0, 1])

    def test_absolute_texts_go_on_at_the_root(self):
        tree = linked(["/d/f", "/", "/d", "/."])
        self.led(tree, 1, "l0", ALL, 2, [1, 0, 1, 2])
        self.led(tree, 1, "l1", ALL, 0, [1, 0])
        self.led(tree, 1, "l3/", NEARLY, 0, [1, 0])
        self.led(tree, 1, "l1/d/f", NEARLY, 2, [1, 0, 1, 2])
        self.led(tree, 1, "l2/f", NEARLY, 2, [1, 0, 1, 2])

    def test_texts_without_steps(self):
        tree = linked([".", "./"])
        self.led(tree, 0, "l0", ALL, 0, [0, 0])
        self.led(tree, 1, "l1", ALL, 1, [1, 1])
        self.led(tree, 1, "l0/f", NEARLY, 2, [1, 1, 2])
        self.led(tree, 1, "l0/l1/f", NEARLY, 2, [1, 1, 1, 2])

    def test_links_to_links(self):
        tree = linked(["l1", "l2", "d"])
        self.led(tree, 0, "l0/f", NEARLY, 2, [0, 0, 0, 0, 1, 2])
        self.led(tree, 0, "l0", ALL, 1, [0, 0, 0, 0, 1])
        self.led(tree, 0, "l0/", NEARLY, 1, [0, 0, 0, 0, 1])

    def test_the_last_step_of_a_text_is_followed_only_if_it_is_to_be(self):
        """The last step of the text is the last one of the walk if no steps were left behind the link."""
        tree = Tree([Folder(0, [("a", 1), ("b", 2)]), Link(0, "b"), Link(0, "c")])
        self.led(tree, 0, "a", ALL, "none", [0, 0, 0])
        self.led(tree, 0, "a", NEARLY, 1, [0, 1])

    def test_rings(self):
        for texts in (["l0"], ["l1", "l0"], ["/l1", "../l2", "/d/l0"]):
            tree = linked(texts)
            for text, look in (("l0", ALL), ("l0/", NEARLY), ("l0/f", NEARLY)):
                self.led(tree, 0, text, look, "links")
            self.led(tree, 0, "l0", NEARLY, 3)
            self.led(tree, 0, "l0/f", PLAIN, "link")

    def test_eight_are_followed_and_the_ninth_is_refused(self):
        texts = ["l" + str(k + 1) for k in range(8)] + ["d"]
        tree = linked(texts)
        self.led(tree, 0, "l1/f", NEARLY, 2, [0] * 9 + [1, 2])
        self.led(tree, 0, "l1", ALL, 1, [0] * 9 + [1])
        self.led(tree, 0, "l0/f", NEARLY, "links", [0] * 9)
        self.led(tree, 0, "l0", ALL, "links", [0] * 9)
        # The ninth is not refused where it is not followed.
        self.led(linked(["l" + str(k + 1) for k in range(8)] + ["d"]), 0, "l8", NEARLY, 11)

    def test_all_links_of_a_walk_count(self):
        tree = linked(["."])
        self.led(tree, 0, "/".join(["l0"] * 8), ALL, 0, [0] * 9)
        self.led(tree, 0, "/".join(["l0"] * 8 + ["d", "f"]), NEARLY, 2, [0] * 9 + [1, 2])
        self.led(tree, 0, "/".join(["l0"] * 9), ALL, "links", [0] * 9)
        self.led(tree, 0, "/".join(["l0"] * 9), NEARLY, 3, [0] * 9 + [3])
        self.led(tree, 0, "/".join(["l0"] * 9) + "/d", NEARLY, "links", [0] * 9)


class OwnersTest(Checked):
    def owned(self, owners, follow=False, last=False):
        return Look(follow, last, owners)

    def test_owners(self):
        self.led(sample(), 0, "a/b/c", self.owned([1, 2, 3]), 5)
        self.led(sample(), 0, "a/b/c", self.owned([3, 1, 2, 9]), 5)
        self.led(sample(), 0, "a/b/c", self.owned([1, 2]), "owner", [0, 1, 3])
        self.led(sample(), 0, "a/b/c", self.owned([2, 3]), "owner", [0])
        self.led(sample(), 0, "a", self.owned([1]), 1)
        self.led(sample(), 0, "a", self.owned([]), "owner", [0])
        self.led(sample(), 0, "f", self.owned([0]), 2)
        self.led(sample(), 0, "f", self.owned([1]), "owner", [0])

    def test_the_place_and_the_root_are_not_asked(self):
        self.led(sample(), 1, "b", self.owned([2]), 3)
        self.led(sample(), 3, "/a", self.owned([1]), 1)
        self.led(sample(), 1, ".", self.owned([]), 1)
        self.led(sample(), 1, "/", self.owned([]), 0)

    def test_up_is_asked(self):
        self.led(sample(), 1, "..", self.owned([1]), "owner", [1])
        self.led(sample(), 1, "..", self.owned([0]), 0)
        self.led(sample(), 0, "..", self.owned([1]), "owner", [0])
        self.led(sample(), 0, "/..", self.owned([1]), "owner", [0])
        self.led(sample(), 6, "..", self.owned([4]), "owner", [6])
        self.led(sample(), 6, "..", self.owned([5]), 7)
        self.led(sample(), 7, "..", self.owned([2]), 3)

    def test_links_are_asked_and_the_roots_of_their_texts_are_not(self):
        tree = Tree([Folder(0, [("a", 1), ("l", 2)]), Folder(1, [("l", 2)]), Link(2, "/a")])
        self.led(tree, 1, "l", self.owned([1, 2], True, True), 1, [1, 0, 1])
        self.led(tree, 1, "l", self.owned([2], True, True), "owner", [1, 0])
        self.led(tree, 1, "l", self.owned([1], True, True), "owner", [1])
        self.led(tree, 1, "l", self.owned([2]), 2)
        self.led(tree, 1, "l", self.owned([1]), "owner")

    def test_a_link_that_leads_to_its_own_folder_does_not_ask_it(self):
        tree = Tree([Folder(0, [("l", 1)]), Link(2, ".")])
        self.led(tree, 0, "l", self.owned([2], True, True), 0, [0, 0])


class OrderTest(Checked):
    """Several refusals apply to one look: that of the list in point [7] comes first."""

    def test_none_comes_before_all(self):
        self.led(sample(), 0, "z/a", Look(False, False, []), "none")
        self.led(sample(), 6, "z/", Look(True, True, [9]), "none")

    def test_owner_comes_before_file(self):
        self.led(sample(), 0, "f/a", Look(False, False, [9]), "owner")
        self.led(sample(), 0, "f/", Look(False, False, []), "owner")
        self.led(sample(), 0, "f/a", Look(False, False, [0]), "file")

    def test_owner_comes_before_links_and_link(self):
        ring = Tree([Folder(0, [("l", 1), ("m", 2)]), Link(1, "m"), Link(2, "l")])
        self.led(ring, 0, "l/x", Look(False, False, [2]), "owner")
        self.led(ring, 0, "l/x", Look(False, False, [1]), "link")
        self.led(ring, 0, "l/x", Look(True, False, [1, 2]), "links")
        chain = Tree([Folder(0, [("l", 1), ("m", 2)]), Link(1, "."), Link(2, ".")])
        self.led(chain, 0, "l/" * 8 + "m/x", Look(True, False, [1]), "owner", [0] * 9)
        self.led(chain, 0, "l/" * 8 + "m/x", Look(True, False, [1, 2]), "links", [0] * 9)

    def test_links_comes_only_where_the_link_is_followed(self):
        tree = Tree([Folder(0, [("l", 1)]), Link(1, ".")])
        self.led(tree, 0, "/".join(["l"] * 9), Look(True, False, None), 1)
        self.led(tree, 0, "/".join(["l"] * 9), Look(True, True, None), "links")
        self.led(tree, 0, "l/" * 9, Look(True, False, None), "links")


class NoNodeTest(unittest.TestCase):
    def refused(self, tree, place):
        for text in ("a", "/a", ".", "/", "../x"):
            for function in (walk, stands):
                with self.subTest(repr(place) + text):
                    with self.assertRaises(NoNode) as caught:
                        function(tree, place, read_path(text), ALL)
                    self.assertIs(caught.exception.node, place)

    def test_no_node(self):
        for place in NO_NUMBERS + [-1, -8, 8, 10 ** 30]:
            self.refused(sample(), place)

    def test_files_and_links(self):
        self.refused(sample(), 2)
        self.refused(sample(), 4)
        self.refused(linked(["d"]), 3)


class DrawnTest(unittest.TestCase):
    def test_drawn_walks(self):
        """The package and the plain reading agree; every result comes up."""
        rng = generator(7)
        seen = set()
        for _ in range(4000):
            tree = draw_tree(rng, rng.randint(1, 9), kinds="dddllfg")
            place, path, look = rng.choice(places(tree)), draw_path(rng, 6), draw_look(rng)
            expected = plain_walk(tree, place, path, look)
            self.assertEqual(plain(walk(tree, place, path, look)), expected.result)
            came = [] if expected.result[0] == "refused" else [expected.result[1]]
            before = expected.stood if not came else expected.stood[:-1]
            self.assertEqual(stands(tree, place, path, look), before + came)
            seen.add(expected.result[1] if not came else "came")
        self.assertEqual(seen, {"came", "none", "owner", "file", "link", "links"})

    def test_nothing_is_changed(self):
        rng = generator(8)
        for _ in range(100):
            tree = draw_tree(rng, 6, kinds="dddllfg")
            copied = Tree(tree.nodes)
            path, look = draw_path(rng, 6), draw_look(rng)
            fields = (path.steps, path.absolute, path.folder, look.follow, look.last, look.owners)
            first = (walk(tree, 0, path, look), stands(tree, 0, path, look))
            self.assertEqual(first, (walk(tree, 0, path, look), stands(tree, 0, path, look)))
            self.assertEqual(tree, copied)
            self.assertEqual(fields, (path.steps, path.absolute, path.folder, look.follow, look.last, look.owners))

    def test_long_paths(self):
        tree = Tree([Folder(0, [("a", 1)]), Folder(0, [])])
        path = Path(["a", ".."] * 15, False, True)
        self.assertEqual(stands(tree, 0, path, PLAIN), [0, 1] * 15 + [0])


if __name__ == "__main__":
    unittest.main()
