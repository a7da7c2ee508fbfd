"""Points [21] and [22]: what calls do, and the endings of processes."""

import unittest

from namewalk.endings import Ending, endings
from namewalk.errors import Large, NoNode
from namewalk.paths import Path, read_path
from namewalk.processes import Done, Find, Made, Make, Process, Remove, Shift
from namewalk.trees import File, Folder, Gone, Link, Tree
from namewalk.walking import Came, Look, Refused
from namewalk.walktexts import result_text
from tests.drawn import draw_look, draw_path, draw_tree, generator, places
from tests.plain_processes import plain_endings
from tests.samples import INTERFACE_OBJECTS, NO_NUMBERS

PLAIN = Look(False, False, None)
ALL = Look(True, True, None)


def call_of(text):
    """A call as it is written below: its class, and its words."""
    words = text.split(" ")
    paths = [read_path(word) for word in words[1:] if word not in ("file", "folder")]
    if words[0] == "make":
        return Make(words[1], paths[0])
    return {"find": Find, "remove": Remove, "shift": Shift}[words[0]](*paths)


def process_of(*calls, place=0, look=PLAIN, owner=0):
    return Process(place, look, owner, [call_of(text) for text in calls])


def sample():
    return Tree([Folder(0, [("a", 1), ("f", 3), ("l", 4)]), Folder(1, [("b", 2)]), Folder(2, []), File(3),
                 Link(4, "a/b"),
                 Gone(5, 1)])


class Checked(unittest.TestCase):
    def ended(self, tree, processes):
        """The endings as (texts, count, whole, timely); the plain reading has the same."""
        found = endings(tree, processes)
        told = [([result_text(result) for row in one.results for result in row], one.count, one.whole, one.timely)
                for one in found]
        self.assertEqual(told, plain_endings(tree, processes))
        for one in found:
            self.assertIsInstance(one, Ending)
            self.assertIsInstance(one.results, tuple)
            self.assertTrue(all(isinstance(row, tuple) for row in one.results))
            self.assertEqual([len(row) for row in one.results], [len(process.calls) for process in processes])
            self.assertIs(one.whole.__class__, bool)
            self.assertLessEqual(one.timely, one.count)
        self.assertEqual(endings(tree, tuple(processes)), found)
        return told

    def alone(self, expected, *calls, tree=None, **more):
        """One process has one ending, in just one weaving."""
        self.assertEqual(self.ended(tree or sample(), [process_of(*calls, **more)]), [(expected, 1, True, 1)])


class EndingTest(unittest.TestCase):
    def test_fields(self):
        results = [[Came(1), Done()], [Refused("none")]]
        one = Ending(results, 3, True, 2)
        results[0].append(Done())
        results.append([])
        self.assertEqual(vars(one), {"results": ((Came(1), Done()), (Refused("none"),)), "count": 3, "whole": True,
                                     "timely": 2})
        self.assertEqual(Ending(timely=1, whole=False, count=2, results=()), Ending([], 2, False, 1))

    def test_equality(self):
        ones = [Ending([], 1, True, 1), Ending([[]], 1, True, 1), Ending([[Done()]], 1, True, 1),
                Ending([], 2, True, 1),
                Ending([], 1, False, 1), Ending([], 1, True, 0), Ending([[Done()], []], 1, True, 1),
                Ending([[], [Done()]], 1, True, 1), Ending([[Made(0, 0)]], 1, True, 1), Ending([[Came(0)]], 1, True, 1)]
        for i, one in enumerate(ones):
            for j, other in enumerate(ones):
                self.assertIs(one == other, i == j)
                self.assertIs(one != other, i != j)
        self.assertEqual(Ending([[Done()]], 1, True, 1), Ending(((Done(),),), 1, True, 1))
        for other in INTERFACE_OBJECTS + [None, (), []]:
            if other.__class__ != Ending:
                self.assertIs(ones[0] == other, False)
                self.assertIs(other == ones[0], False)


class CallsTest(Checked):
    def test_find(self):
        self.alone(["came 2"], "find a/b")
        self.alone(["refused none"], "find a/x/y")
        self.alone(["refused file"], "find f/")
        self.alone(["came 0"], "find ../..")
        self.alone(["came 4"], "find l")
        self.alone(["refused link"], "find l/x")
        self.alone(["came 1"], "find ..", place=2)
        self.alone(["came 1"], "find /a", place=5)
        self.alone(["came 1"], "find ..", place=5)
        self.alone(["came 1", "came 1", "refused none"], "find a", "find a", "find b")

    def test_find_without_steps(self):
        for place in (0, 1, 2, 5):
            self.alone(["came %d" % place], "find .", place=place)
            self.alone(["came 0"], "find /", place=place)
            self.alone(["came %d" % place, "came 0"], "find .", "find /", place=place, look=Look(True, True, []))
        # It has one moment all the same.
        for many in range(1, 5):
            found = self.ended(sample(), [process_of(*["find ."] * many), process_of("find .", place=1)])
            self.assertEqual(found, [(["came 0"] * many + ["came 1"], many + 1, True, many + 1)])

    def test_make(self):
        self.alone(["done", "made 0 0", "refused file"], "make file a/x", "find a/x", "find a/x/")
        self.alone(["done", "done", "made 0 0", "made 0 1"], "make folder x", "make file x/y", "find x", "find /x/y")
        self.alone(["refused taken", "refused taken"], "make file a", "make folder f")
        self.alone(["refused none", "refused file", "refused link"], "make file x/y", "make file f/y", "make file l/y")
        self.alone(["done", "made 0 0"], "make file l/y", "find a/b/y", look=ALL)
        self.alone(["refused folder"], "make file x", place=5)
        self.alone(["done", "made 0 0"], "make file ../x", "find ../x", place=5)
        self.alone(["done", "made 0 0"], "make folder x/", "find x/")
        self.alone(["done", "made 0 0"], "make file x/", "find x")

    def test_who_owns_what_is_made(self):
        asked = Look(False, False, [0, 1, 7])
        self.alone(["done", "made 0 0"], "make file a/x", "find a/x", look=asked, owner=7)
        self.alone(["done", "refused owner"], "make file a/x", "find a/x", look=asked, owner=8)
        found = self.ended(sample(), [process_of("make folder x", owner=8), process_of("find x", look=asked)])
        self.assertEqual([row[0] for row in found], [["done", "refused none"], ["done", "refused owner"]])

    def test_remove(self):
        self.alone(["done", "refused none"], "remove f", "find f")
        self.alone(["refused full", "done", "done", "refused none"], "remove a", "remove a/b", "remove a", "find a")
        self.alone(["refused none", "refused none", "refused file"], "remove x", "remove x/y", "remove f/y")
        self.alone(["done", "refused folder", "refused none", "came 2", "came 1"], "remove ../b", "make file x",
                   "find x", "find .", "find ..", place=2)

    def test_shift(self):
        self.alone(["done", "refused none", "came 2"], "shift a/b c", "find a/b", "find c")
        self.alone(["done", "came 3"], "shift f/ a/g/", "find a/g")
        self.alone(["refused none", "refused none", "refused taken", "refused taken"], "shift x y", "shift f x/y",
                   "shift f a", "shift f f")
        self.alone(["refused below", "refused below"], "shift a a/b/c", "shift a a/c")
        self.alone(["done"], "shift /a/b ../c", place=5)
        self.alone(["refused folder"], "shift /f c", place=5)
        self.alone(["refused folder"], "shift c /f", place=5)

    def test_links_are_followed_on_the_way(self):
        for look, expected in ((ALL, "done"), (Look(True, False, None), "done"), (PLAIN, "refused link")):
            self.alone([expected], "make file l/x", look=look)
            self.alone([expected], "shift f l/x", look=look)
        # What stands at the last step is not looked at.
        self.alone(["done", "refused none", "came 2"], "remove l", "find l", "find a/b", look=ALL)
        self.alone(["refused taken"], "make file l", look=ALL)

    def test_paths_without_a_name_at_the_end(self):
        for call in ("make file ..", "make folder a/..", "make file .", "make file /", "remove ..", "remove a/..",
                     "remove .", "remove /..", "shift .. x", "shift f ..", "shift f a/..", "shift . x", "shift f /",
                     "shift x/.. y", "shift zz/z ..", "shift .. .."):
            self.alone(["refused name"], call)
            # It is one moment of its own, without a walk.
            self.assertEqual(self.ended(sample(), [process_of(call), process_of("find a/b/../..")]),
                             [(["refused name", "came 0"], 5, True, 5)])

    def test_the_first_walk_that_is_refused_ends_the_call(self):
        found = self.ended(sample(), [process_of("shift x/y/z a/b/../c"), process_of("find a/b")])
        self.assertEqual(found, [(["refused none", "came 2"], 3, True, 3)])
        found = self.ended(sample(), [process_of("shift a/b/c x/y/z"), process_of("find a/b")])
        self.assertEqual(found, [(["refused none", "came 2"], 10, True, 10)])
        found = self.ended(sample(), [process_of("make file f/y/z/w"), process_of("find .")])
        self.assertEqual(found, [(["refused file", "came 0"], 2, True, 2)])

    def test_the_moments_of_calls(self):
        """Beside a process with one moment there is one weaving more than moments."""
        for call, many in (("find a/b", 2), ("make file a/b/x", 3), ("make file x", 1), ("make file /x", 1),
                           ("remove a/b", 2), ("remove f", 1), ("shift a/b x", 2), ("shift f a/b/x", 3),
                           ("shift a/b a/x", 3), ("find f/x", 1), ("find .", 1), ("find a/b/../b/..", 5),
                           ("remove a/b/x", 3), ("find l/", 3), ("make file l/x", 4)):
            look = ALL if "l/" in call else PLAIN
            found = self.ended(sample(), [process_of(call, look=look), process_of("find .")])
            self.assertEqual(sum(row[1] for row in found), many + 1)


class WovenTest(Checked):
    def test_processes_that_only_find(self):
        found = self.ended(sample(), [process_of("find a/b"), process_of("find f", "find x"), process_of("find l")])
        self.assertEqual(found, [(["came 2", "came 3", "refused none", "came 4"], 30, True, 30)])

    def test_two_that_make_the_same_name(self):
        found = self.ended(sample(), [process_of("make file x", "find x"), process_of("make file x", "find x")])
        self.assertEqual(found, [(["done", "made 0 0", "refused taken", "made 0 0"], 3, True, 3),
                                 (["refused taken", "made 1 0", "done", "made 1 0"], 3, True, 3)])
        found = self.ended(sample(), [process_of("make folder x"), process_of("make file x/y"), process_of("find x/y")])
        self.assertEqual([row[0] for row in found],
                         [["done", "done", "made 1 0"], ["done", "done", "refused none"],
                          ["done", "refused none", "refused none"]])

    def test_a_folder_that_is_shifted_while_another_process_walks_through_it(self):
        found = self.ended(sample(), [process_of("shift a c", "make file c/x"), process_of("find a/x")])
        self.assertEqual(found, [(["done", "done", "made 0 1"], 1, False, 0),
                                 (["done", "done", "refused none"], 6, True, 6)])
        found = self.ended(sample(), [process_of("shift a/b b"), process_of("make file a/b/x"), process_of("find b/x")])
        self.assertIn(["done", "done", "made 1 0"], [row[0] for row in found])

    def test_a_folder_that_is_removed_while_another_process_walks_through_it(self):
        found = self.ended(sample(), [process_of("remove a/b"), process_of("make file a/b/x")])
        self.assertEqual([(row[0], row[2]) for row in found],
                         [(["done", "refused folder"], False), (["done", "refused none"], True),
                          (["refused full", "done"], True)])
        found = self.ended(sample(), [process_of("remove a/b"), process_of("find a/b/..")])
        self.assertEqual([row[0] for row in found], [["done", "came 1"], ["done", "refused none"]])

    def test_orders_that_do_not_keep_the_times(self):
        """The results are those of an order of whole calls, but not in the time that they took."""
        tree = Tree([Folder(0, [("a", 1)]), Folder(0, [("b", 2)]), Folder(0, [])])
        processes = [process_of("shift c/c b"), process_of("make file a/c"), process_of("remove b", "shift a c")]
        self.assertIn((["refused none", "done", "refused none", "done"], 20, True, 18), self.ended(tree, processes))
        found = self.ended(sample(), [process_of("find a/x", "find y"), process_of("make file y", "make file a/x")])
        self.assertEqual([row for row in found if not row[2]], [])

    def test_a_process_without_calls(self):
        self.assertEqual(self.ended(sample(), [process_of()]), [([], 1, True, 1)])
        self.assertEqual(self.ended(sample(), [process_of(), process_of(), process_of()]), [([], 1, True, 1)])
        self.assertEqual(endings(sample(), [process_of(), process_of("find f")]),
                         [Ending([[], [Came(3)]], 1, True, 1)])
        self.assertEqual(endings(sample(), [process_of("find f"), process_of(), process_of("remove f")]),
                         [Ending([[Came(3)], [], [Done()]], 1, True, 1),
                          Ending([[Refused("none")], [], [Done()]], 1, True, 1)])

    def test_results_are_told_by_who_made_the_node(self):
        found = endings(sample(), [process_of("make file x"), process_of("make file y", "find x", "find y")])
        results = [one.results for one in found]
        self.assertIn(((Done(),), (Done(), Made(0, 0), Made(1, 0))), results)
        self.assertIn(((Done(),), (Done(), Refused("none"), Made(1, 0))), results)
        self.assertEqual(len(results), 2)

    def test_the_order_is_that_of_the_texts(self):
        """came 10 is before came 9, and the texts of the first process count first."""
        nodes = [Folder(0, [("a", 9), ("b", 10)])] + [File(0)] * 8 + [File(0), File(0)]
        found = self.ended(Tree(nodes), [process_of("find a"), process_of("shift a c", "shift b a")])
        self.assertEqual([row[0][0] for row in found], ["came 10", "came 9", "refused none"])
        found = self.ended(Tree(nodes), [process_of("find a", "find b"), process_of("remove a"),
                                         process_of("remove b")])
        self.assertEqual([row[0][:2] for row in found], [["came 9", "came 10"], ["came 9", "refused none"],
                                                         ["refused none", "came 10"], ["refused none", "refused none"]])

    def test_new_lists_and_nothing_is_changed(self):
        tree, processes = sample(), [process_of("remove f"), process_of("find f")]
        found = endings(tree, processes)
        copied = list(found)
        found.clear()
        self.assertEqual(endings(tree, processes), copied)
        self.assertEqual((tree, processes), (sample(), [process_of("remove f"), process_of("find f")]))


class DrawnTest(Checked):
    def draw_call(self, rng, names):
        def path():
            return draw_path(rng, 3, names=names) if rng.random() < 0.3 else \
                Path([rng.choice(names) for _ in range(rng.randint(1, 3))], rng.random() < 0.2, rng.random() < 0.2)
        kind = rng.randrange(5)
        if kind == 0:
            return Find(path())
        if kind in (1, 2):
            return Make(rng.choice(["folder", "file"]), path())
        return Remove(path()) if kind == 3 else Shift(path(), path())

    def test_drawn(self):
        rng = generator(121)
        seen = {"not whole": 0, "many": 0}
        for _ in range(1000):
            tree = draw_tree(rng, rng.randint(1, 6), names="ab", kinds="ddddflg")
            rows = [[] for _ in range(rng.randint(1, 3))]
            for _ in range(rng.randint(0, 4)):
                rng.choice(rows).append(self.draw_call(rng, "ab"))
            processes = [Process(rng.choice(places(tree)), draw_look(rng), rng.randrange(2), row) for row in rows]
            try:
                endings(tree, processes)
            except Large:
                continue
            found = self.ended(tree, processes)
            seen["not whole"] += bool([row for row in found if not row[2]])
            seen["many"] += len(found) > 2
        self.assertGreater(min(seen.values()), 0)


class ErrorsTest(unittest.TestCase):
    def test_no_node(self):
        for place in NO_NUMBERS + [-1, 6, 10 ** 30, 3, 4]:
            for processes in ([process_of(place=place)], [process_of("find f"), process_of("find f", place=place)],
                              [process_of(place=0), process_of(place=place), process_of(place=-5)]):
                with self.assertRaises(NoNode) as caught:
                    endings(sample(), processes)
                self.assertIs(caught.exception.node, place)

    def test_the_first_place_that_is_none(self):
        for one, other in ((3, 4), (4, 3), (-1, None), ("a", -1)):
            with self.assertRaises(NoNode) as caught:
                endings(sample(), [process_of("find f", place=one), process_of("find f", place=other)])
            self.assertIs(caught.exception.node, one)

    def test_no_node_comes_before_large(self):
        calls = ["find a/b/../b/../b"] * 2
        many = [process_of(*calls), process_of(*calls), process_of(*calls)]
        with self.assertRaises(Large):
            endings(sample(), many)
        for index in range(3):
            processes = list(many)
            processes[index] = process_of(*calls, place=77)
            with self.assertRaises(NoNode) as caught:
                endings(sample(), processes)
            self.assertEqual(caught.exception.node, 77)

    def thousand(self, more):
        """The first process shifts a in its third moment; the second one looks for it first of all."""
        tree = Tree([Folder(0, [("a", 1)]), Folder(0, [])])
        return tree, [process_of("find ../..", "shift a c", "find .."),
                      process_of("find a/..", "find " + "/".join([".."] * (8 + more)))]

    def test_exactly_a_thousand_weavings(self):
        tree, processes = self.thousand(0)
        found = endings(tree, processes)
        self.assertEqual(sum(one.count for one in found), 1000)
        self.assertEqual([result_text(one.results[1][0]) for one in found], ["came 0", "refused none"])
        self.assertTrue(all(one.whole and one.count == one.timely for one in found))

    def test_more_than_a_thousand_weavings(self):
        tree, processes = self.thousand(1)
        for asked in (processes, processes[::-1], processes + [process_of("find f")]):
            with self.assertRaises(Large) as caught:
                endings(tree, asked)
            self.assertEqual(caught.exception.count, 1001)
        steps = "/".join([".."] * 10)
        with self.assertRaises(Large) as caught:
            endings(sample(), [process_of("find " + steps), process_of("find " + "/".join([".."] * 4))])
        self.assertEqual(caught.exception.count, 1001)
        found = endings(sample(), [process_of("find " + "/".join([".."] * 9)), process_of("find ../../../..")])
        self.assertEqual([one.count for one in found], [715])

    def test_long_paths_are_no_matter(self):
        steps = "/".join(["a/.."] * 15)
        found = endings(sample(), [process_of("find " + steps, "shift f a/g"), process_of(*["find " + steps] * 0)])
        self.assertEqual(found, [Ending([[Came(0), Done()], []], 1, True, 1)])
        many = [process_of(*["find " + steps] * 5), process_of("find f")]
        self.assertEqual([one.count for one in endings(sample(), many)], [151])


if __name__ == "__main__":
    unittest.main()
