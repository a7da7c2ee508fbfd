"""Guards of point [20]."""

import itertools
import unittest

from namewalk.errors import Large, NoNode
from namewalk.guarding import guards
from namewalk.others import Others
from namewalk.paths import read_path
from namewalk.reaching import New, reach
from namewalk.trees import File, Folder, Gone, Link, Tree
from namewalk.walking import Came, Look, Refused, walk
from tests.drawn import draw_look, draw_path, draw_tree, generator, places
from tests.plain_reach import PlainReach, told
from tests.samples import NO_NUMBERS

PLAIN = Look(False, False, None)
ALL = Look(True, True, None)


def sample():
    return Tree([Folder(0, [("a", 1)]), Folder(0, [("b", 2), ("c", 3)]), Folder(0, []), File(0)])


def wide(many):
    """As many folders in the root, each with a folder e, which is not theirs."""
    outer = [Folder(0, [("e", many + k)]) for k in range(1, many + 1)]
    return Tree([Folder(0, [("d%d" % k, k) for k in range(1, many + 1)])] + outer + [Folder(0, []) for _ in outer])


def through(numbers):
    """A path that looks for e in each of these folders of a wide tree, and comes back to the root."""
    return read_path("/".join("d%d/e/../.." % number for number in numbers))


def tried(tree, others, place, path, look, allowed):
    """Point [20] word by word: all sets by their sizes, those of one size as lists are compared."""
    theirs = sorted(set(others.folders))
    for size in range(len(theirs) + 1):
        for chosen in sorted(list(one) for one in itertools.combinations(theirs, size)):
            left = Others(others.owner, [number for number in theirs if number not in chosen])
            known = PlainReach(tree, left, look).begin(place, path)
            if known.results <= {told(result) for result in allowed}:
                return chosen
    return None


class GuardsTest(unittest.TestCase):
    def guarded(self, tree, others, path, allowed, expected, place=0, look=PLAIN):
        path = read_path(path) if isinstance(path, str) else path
        asked = (tree, others, place, path, look)
        for row in (list(allowed), tuple(allowed), list(allowed)[::-1], list(allowed) * 2):
            found = guards(*asked, row)
            self.assertEqual(found, expected)
            self.assertIsInstance(found, (list, None.__class__))
        self.assertEqual(tried(*asked, allowed), expected)

    def test_one_folder(self):
        self.guarded(sample(), Others(5, [1, 2]), "a/b", [Came(2)], [1])
        self.guarded(sample(), Others(5, [2, 1]), "a/b", [Came(2)], [1])
        self.guarded(sample(), Others(5, [2]), "a/b", [Came(2)], [])
        self.guarded(sample(), Others(5, [1, 2]), "a/b/x", [Refused("none")], [1, 2])
        self.guarded(sample(), Others(5, [0, 1, 2]), "a/b", [Came(2)], [0, 1])
        self.guarded(sample(), Others(5, [2, 0, 1]), "a", [Came(1)], [0])

    def test_nothing_is_to_be_guarded(self):
        self.guarded(sample(), Others(5, []), "a/b", [Came(2)], [])
        self.guarded(sample(), Others(5, [2]), "a/c", [Came(3)], [])
        for text in ("a/b", "a/b/x", "x"):
            everything = reach(sample(), Others(5, [0, 1, 2]), 0, read_path(text), ALL)
            self.guarded(sample(), Others(5, [0, 1, 2]), text, everything, [], look=ALL)
            more = everything + [Refused("name"), Came(77), New("tree")]
            self.guarded(sample(), Others(5, [0, 1, 2]), text, more, [], look=ALL)

    def test_nothing_is_allowed(self):
        for theirs in ([], [1], [0, 1, 2]):
            self.guarded(sample(), Others(5, theirs), "a/b", [], None)
            self.guarded(sample(), Others(5, theirs), ".", [], None)

    def test_what_no_guards_can_reach(self):
        self.guarded(sample(), Others(5, [0, 1, 2]), "a/b", [Came(3), Refused("none"), New("file")], None)
        self.guarded(sample(), Others(5, [0, 1, 2]), "a/z", [Came(2)], None)

    def test_results_that_are_allowed_besides(self):
        self.guarded(sample(), Others(5, [1, 2]), "a/b", [Came(2), Came(3)], [1])
        some = [Came(2), Came(3), New("folder"), New("file"), New("link")]
        self.guarded(sample(), Others(5, [1, 2]), "a/b", some, [1])
        self.guarded(sample(), Others(5, [1, 2]), "a/b", [Refused("none")] + some, [])
        self.guarded(sample(), Others(5, [1]), "a/b/x", [Refused("none"), Refused("file"), Refused("link")], [1])

    def test_several_folders(self):
        for numbers in ((1,), (1, 3), (2, 3, 4), (1, 2, 3, 4)):
            self.guarded(wide(4), Others(5, [1, 2, 3, 4]), through(numbers), [Came(0)], list(numbers))

    def test_the_first_of_several_sets(self):
        """The loose folder 3 can come from 1 to 2, unless one of the two is not theirs."""
        tree = Tree([Folder(0, [("a", 1), ("b", 2)]), Folder(0, [("c", 3)]), Folder(0, [("d", 4)]), Folder(0, []),
                     Folder(0, [])])
        allowed = [one for one in reach(tree, Others(5, [1, 2, 3]), 0, read_path("b/d"), PLAIN) if one != Came(3)]
        for theirs in ([1, 2, 3], [3, 2, 1], [2, 3, 1]):
            self.guarded(tree, Others(5, theirs), "b/d", allowed, [1])
        # The same with 1 and 2 numbered the other way round.
        tree = Tree([Folder(0, [("a", 2), ("b", 1)]), Folder(0, [("d", 4)]), Folder(0, [("c", 3)]), Folder(0, []),
                     Folder(0, [])])
        self.guarded(tree, Others(5, [1, 2, 3]), "b/d", allowed, [1])
        # Two of them are needed, and the one that is always needed has the greatest number.
        tree = Tree([Folder(0, [("a", 1), ("b", 2), ("e", 5)]), Folder(0, [("c", 3)]), Folder(0, [("d", 4)]),
                     Folder(0, []), Folder(0, []), Folder(0, [("g", 6)]), Folder(0, [])])
        path = read_path("e/g/../../b/d")
        allowed = [Came(4), New("folder"), New("file"), New("link"), Refused("none")]
        self.guarded(tree, Others(5, [1, 2, 3, 5]), path, allowed, [1, 5])
        self.assertEqual(walk(tree, 0, path, PLAIN), Came(4))

    def test_a_folder_that_is_given_twice_counts_once(self):
        self.guarded(sample(), Others(5, [1, 1, 2, 2, 1]), "a/b/x", [Refused("none")], [1, 2])
        self.assertEqual(guards(wide(8), Others(5, [1, 2, 3, 4, 5, 6, 7, 8, 8, 1]), 0, through([3, 8]), PLAIN,
                                [Came(0)]),
                         [3, 8])

    def test_eight_folders(self):
        for numbers in ([], [1], [8], [2, 5], [1, 2, 3, 4, 5, 6, 7, 8]):
            path = through(numbers) if numbers else read_path("/")
            self.assertEqual(guards(wide(8), Others(5, range(1, 9)), 0, path, PLAIN, [Came(0)]), numbers)
        self.assertIsNone(guards(wide(8), Others(5, range(1, 9)), 0, through([1]), PLAIN, []))
        everything = reach(wide(8), Others(5, range(1, 9)), 0, through([1]), PLAIN)
        self.assertEqual(guards(wide(8), Others(5, range(1, 9)), 0, through([1]), PLAIN, everything), [])

    def test_links_and_owners(self):
        tree = Tree([Folder(0, [("a", 1), ("b", 2)]), Folder(0, [("l", 3)]), Folder(0, [("f", 4)]), Link(0, "/b/f"),
                     File(0)])
        for others in (Others(5, [1, 2]), Others(0, [1, 2]), Others(5, [0, 1, 2])):
            for look in (ALL, PLAIN, Look(True, True, [0])):
                for allowed in ([Came(4)], [Came(3)], [Came(4), Refused("none")], [Refused("owner"), Came(4)]):
                    asked = (tree, others, 0, read_path("a/l"), look, allowed)
                    self.assertEqual(guards(*asked), tried(*asked))

    def test_a_gone_place(self):
        tree = Tree([Folder(0, [("a", 1)]), Folder(0, [("b", 2)]), Folder(0, []), Gone(0, 1)])
        self.guarded(tree, Others(5, [1]), "../b", [Came(2)], [1], place=3)
        self.guarded(tree, Others(5, [1]), "..", [Came(1)], [], place=3)

    def test_drawn(self):
        rng = generator(91)
        sizes = set()
        for _ in range(300):
            tree = draw_tree(rng, rng.randint(2, 7), kinds=rng.choice(["dddf", "ddddf", "dddlf"]))
            links = [node for node in tree.nodes if isinstance(node, Link)]
            if len(links) > 2 or [1 for link in links if len(read_path(link.text).steps) > 2]:
                continue
            folders = [number for number, node in enumerate(tree.nodes) if isinstance(node, Folder)]
            others = Others(rng.randrange(2), rng.sample(folders, min(len(folders), rng.randint(1, 4))))
            asked = (tree, others, rng.choice(places(tree)), draw_path(rng, 3), draw_look(rng))
            possible = reach(*asked)
            own = walk(tree, *asked[2:])
            for allowed in ([own], possible, [own] + rng.sample(possible, len(possible) // 2), rng.sample(possible, 1)):
                found = guards(*asked, allowed)
                self.assertEqual(found, tried(*asked, allowed))
                sizes.add(None if found is None else len(found))
        self.assertLessEqual({None, 0, 1, 2}, sizes)

    def test_returned_lists_are_new(self):
        asked = (sample(), Others(5, [1, 2]), 0, read_path("a/b"), PLAIN, [Came(2)])
        found = guards(*asked)
        found.append(7)
        self.assertEqual(guards(*asked), [1])
        self.assertEqual(asked, (sample(), Others(5, [1, 2]), 0, read_path("a/b"), PLAIN, [Came(2)]))


class ErrorsTest(unittest.TestCase):
    def test_large(self):
        for many in (9, 10, 20):
            others = Others(5, list(range(1, many + 1)) * 2)
            for allowed in ([], [Came(0)]):
                with self.assertRaises(Large) as caught:
                    guards(wide(many), others, 0, through([1]), PLAIN, allowed)
                self.assertEqual(caught.exception.count, many)
        others = Others(5, [1, 2, 3, 4, 5, 6, 7, 8, 8])
        self.assertEqual(guards(wide(9), others, 0, through([1]), PLAIN, [Came(0)]), [1])

    def test_the_errors_of_reach_come_first(self):
        for number in NO_NUMBERS + [-1, 4, 10 ** 30, 3]:
            for folders in ([number], [1, 2, number], [1] * 10 + [number, None]):
                with self.assertRaises(NoNode) as caught:
                    guards(sample(), Others(5, folders), None, read_path("a"), PLAIN, [])
                self.assertIs(caught.exception.node, number)
        for place in NO_NUMBERS + [-1, 19, 10 ** 30]:
            for theirs in ([], range(1, 9), range(1, 10)):
                with self.assertRaises(NoNode) as caught:
                    guards(wide(9), Others(5, theirs), place, read_path("a"), PLAIN, [])
                self.assertIs(caught.exception.node, place)


if __name__ == "__main__":
    unittest.main()
