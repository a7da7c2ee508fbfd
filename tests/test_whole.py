"""The whole program: what its parts tell of the same things, and point [2] over all of them."""

import itertools
import unittest

from namewalk.certificates import Certificate, certificate, holds
from namewalk.deeds import MakeFile, MakeFolder, MakeLink, Move, Put, Take, trees
from namewalk.desk import Desk
from namewalk.endings import Ending, endings
from namewalk.guarding import guards
from namewalk.others import Others, arrangements, loose, may, pieces
from namewalk.paths import Path, path_text, read_path
from namewalk.processes import Done, Find, Made, Make, Process, Remove, Shift
from namewalk.reaching import New, reach, touched
from namewalk.session import Session
from namewalk.trees import File, Folder, Gone, Link, Tree
from namewalk.walking import Came, Look, Refused, walk
from namewalk.walktexts import read_row, read_tree, result_text, row_text
from namewalk.weavings import Outcome, led_by, moments, results
from tests.drawn import draw_look, draw_path, draw_tree, generator, places
from tests.plain_play import PlainPlay
from tests.plain_reach import told

PLAIN = Look(False, False, None)
WAYS = {(False, False): "plain", (True, False): "nearly", (True, True): "all"}


def drawn(number, many, most=7, kinds=("dddfg", "ddddf", "dddlf")):
    """Trees with others, a place, a path and a look, for which reach is told."""
    rng = generator(number)
    for _ in range(many):
        tree = draw_tree(rng, rng.randint(1, most), kinds=rng.choice(kinds))
        links = [node for node in tree.nodes if isinstance(node, Link)]
        if len(links) <= 2 and not [1 for link in links if len(read_path(link.text).steps) > 2]:
            folders = [number for number, node in enumerate(tree.nodes) if isinstance(node, Folder)]
            others = Others(rng.randrange(3), rng.sample(folders, rng.randint(0, len(folders))))
            yield rng, (tree, others, rng.choice(places(tree)), draw_path(rng, 4), draw_look(rng))


class ReachTest(unittest.TestCase):
    def test_what_a_session_can_tell(self):
        for _, (tree, others, place, path, look) in drawn(161, 300):
            session = Session(tree, others)
            session.begin(place, path, look)
            self.assertEqual(session.can(), reach(tree, others, place, path, look))

    def test_certificates_are_played_in_a_session(self):
        """Before each part the result is one that the walk can still have."""
        for _, asked in drawn(162, 150):
            tree, others = asked[:2]
            for result in reach(*asked):
                session = Session(tree, others)
                session.begin(*asked[2:])
                parts = certificate(*asked, result).parts
                found = None
                for part in parts:
                    self.assertIn(result, session.can())
                    found = session.step() if part == "look" else session.do(part)
                if not parts:
                    self.assertEqual(session.can(), [result])
                    found = session.step()
                self.assertEqual(session.history(), [found])
                self.assertEqual(session.many(), len(parts) + 1 + (not parts))
                if isinstance(found, Came) and found.node >= len(tree.nodes):
                    self.assertEqual(result.kind, session.now().nodes[found.node].__class__.__name__.lower())
                else:
                    self.assertEqual(found, result)
                while session.many() > 0:
                    session.back()
                self.assertEqual((session.now(), session.history()), (tree, []))

    def test_certificates_are_told_to_a_desk(self):
        for _, (tree, others, place, path, look) in drawn(163, 150):
            look = Look(look.follow, look.follow and look.last, None)
            asked = (tree, others, place, path, look)
            for result in reach(*asked):
                desk = Desk(tree, others)
                begin = "begin %d %s %s" % (place, WAYS[(look.follow, look.last)], path_text(path))
                self.assertEqual(desk.tell(begin), ["walking"])
                self.assertEqual(desk.tell("can"), [result_text(one) for one in reach(*asked)])
                answer = None
                for part in certificate(*asked, result).parts or ["look"]:
                    answer = desk.tell("step" if part == "look" else row_text([part]))
                    self.assertFalse(answer[0] in ("refused badtext", "refused forbidden"))
                self.assertEqual(desk.tell("history"), answer)
                text = answer[0]
                if text.startswith("came") and int(text[5:]) >= len(tree.nodes):
                    word = desk.tell("tree")[0].split("; ")[int(text[5:])].split(" ")[0]
                    text = "new " + {"gone": "folder"}.get(word, word)
                self.assertEqual(text, result_text(result))

    def test_certificates_are_rows_with_weavings(self):
        for _, asked in drawn(164, 150):
            for result in reach(*asked):
                parts = certificate(*asked, result).parts
                row = [part for part in parts if part != "look"]
                weaving = [len([one for one in parts[:index] if one != "look"])
                           for index, part in enumerate(parts) if part == "look"]
                found = led_by(asked[0], row, *asked[2:], weaving)
                nodes = trees(asked[0], row)[-1].nodes
                if isinstance(found, Came) and found.node >= len(asked[0].nodes):
                    found = New(nodes[found.node].__class__.__name__.lower())
                self.assertEqual(found, result)
                self.assertEqual(read_row(row_text(row)), row)
                self.assertIs(holds(*asked, result, Certificate(parts)), True)
                self.assertEqual(PlainPlay(*asked).played(parts), told(result))

    def test_touched_and_guards(self):
        for rng, asked in drawn(165, 250, 6):
            tree, others, place, path, look = asked
            own, known, at = walk(tree, place, path, look), reach(*asked), touched(*asked)
            guarded = guards(*asked, [own])
            # Without their folders at which the walk can stand they cannot change where it leads.
            self.assertEqual(at == [] or known == [own], guarded == [])
            self.assertLessEqual(set(guarded), set(others.folders))
            left = [folder for folder in others.folders if folder not in at]
            self.assertEqual(reach(tree, Others(others.owner, left), place, path, look), [own])
            self.assertLessEqual(len(guarded), len(at))
            some = [own] + rng.sample(known, len(known) // 2)
            guarded = guards(*asked, some)
            left = [folder for folder in others.folders if folder not in guarded]
            for result in known:
                one = certificate(tree, Others(others.owner, left), place, path, look, result)
                self.assertTrue(one is None or result in some)

    def test_one_others_asked_of_two_trees_by_turns(self):
        one = Tree([Folder(0, [("a", 1)]), Folder(0, [("b", 2), ("f", 3)]), Folder(0, []), File(5)])
        other = Tree([Folder(0, [("b", 2)]), Folder(0, []), Folder(0, [("a", 1), ("l", 3)]), Link(0, "..")])
        others, path, look = Others(5, [2, 1]), read_path("a/b"), Look(True, True, None)

        def asked(tree, others):
            return [loose(tree, others), pieces(tree, others), arrangements(tree, others),
                    may(tree, others, MakeFile(2, "f", 5)), may(tree, others, Take(1, "b")),
                    reach(tree, others, 0, path, look), touched(tree, others, 0, path, look),
                    guards(tree, others, 0, path, look, [walk(tree, 0, path, look)]),
                    [certificate(tree, others, 0, path, look, one) for one in reach(tree, others, 0, path, look)],
                    Session(tree, others).now(), Desk(tree, others).tell("loose")]
        expected = [asked(tree, Others(5, [2, 1])) for tree in (one, other)]
        self.assertNotEqual(expected[0], expected[1])
        for _ in range(3):
            self.assertEqual([asked(tree, others) for tree in (one, other)], expected)
            self.assertEqual([asked(tree, others) for tree in (other, one)], expected[::-1])


class ProcessesTest(unittest.TestCase):
    """A walk among the deeds of one row, told as two processes: each deed is a call with one moment."""

    def test_a_walk_and_a_row(self):
        rng = generator(166)
        seen = {"made": 0, "not whole": 0}
        for _ in range(1500):
            tree = draw_tree(rng, rng.randint(2, 6), names="ab", kinds="dddfl")
            folder = rng.choice([number for number, node in enumerate(tree.nodes) if isinstance(node, Folder)])
            calls, row = self.draw_calls(rng, tree, folder)
            place, path, look = rng.choice(places(tree) + [folder] * 9), draw_path(rng, 4, least=1), draw_look(rng)
            one, other = Process(place, look, 0, [Find(path)]), Process(folder, PLAIN, 1, calls)
            found = {}
            for ending in endings(tree, [one, other]):
                self.assertEqual(ending.results[1], (Done(),) * len(row))
                found[result_text(ending.results[0][0])] = ending
            makers = [index for index, deed in enumerate(row) if isinstance(deed, (MakeFile, MakeFolder))]
            for outcome in results(tree, row, place, path, look):
                result = outcome.result
                if isinstance(result, Came) and result.node >= len(tree.nodes):
                    result = Made(1, makers[result.node - len(tree.nodes)])
                    seen["made"] += 1
                ending = found.pop(result_text(result))
                self.assertEqual(ending.results[0], (result,))
                self.assertEqual(ending.count, outcome.count)
                explained = moments(tree, row, place, path, look, outcome.result) != []
                self.assertIs(ending.whole, explained)
                seen["not whole"] += not explained
            self.assertEqual(found, {})
        self.assertGreater(min(seen.values()), 0)

    def draw_calls(self, rng, tree, folder):
        """Calls on names of one folder, and the same as a row of deeds that can be done."""
        names = {name: inner for name, inner in tree.nodes[folder].entries}
        calls, row, made = [], [], 0
        for _ in range(rng.randint(0, 4)):
            name, kind = rng.choice("abc"), rng.randrange(4)
            if kind < 2 and name not in names:
                names[name] = len(tree.nodes) + made
                made += 1
                calls.append(Make(["file", "folder"][kind], Path((name,), False, False)))
                row.append([MakeFile, MakeFolder][kind](folder, name, 1))
            elif kind == 2 and name in names and self.is_empty(tree, names[name]):
                del names[name]
                calls.append(Remove(Path((name,), False, False)))
                row.append(Take(folder, name))
            elif kind == 3 and name in names:
                free = [other for other in "abcd" if other not in names]
                if free:
                    names[free[0]] = names.pop(name)
                    calls.append(Shift(Path((name,), False, False), Path((free[0],), False, False)))
                    row.append(Move(folder, name, folder, free[0]))
        return calls, row

    def is_empty(self, tree, number):
        return number >= len(tree.nodes) or not getattr(tree.nodes[number], "entries", ())


def variants():
    """For each class a maker of objects that all differ from one another, made anew at each call."""
    path, other = read_path("a/b"), read_path("/c/")
    tree, twin = Tree([Folder(0, [])]), Tree([Folder(1, [])])
    return [
        Path(["a"], False, False), Path(["b"], False, False), Path(["a"], True, False), Path(["a"], False, True),
        Folder(0, []), Folder(1, []), Folder(0, [("a", 1)]), Folder(0, [("b", 1)]), Folder(0, [("a", 2)]), File(0),
        File(1), Link(0, "a"), Link(1, "a"), Link(0, "a/"), Gone(0, 0), Gone(1, 0), Gone(0, 1), tree, twin,
        Tree([Folder(0, []), File(0)]), Look(False, False, None), Look(True, False, None), Look(False, True, None),
        Look(False, False, []), Look(False, False, [0]), Look(False, False, [0, 1]), Came(0), Came(1), Refused("none"),
        Refused("file"), MakeFolder(0, "a", 0), MakeFolder(1, "a", 0), MakeFolder(0, "b", 0), MakeFolder(0, "a", 1),
        MakeFile(0, "a", 0), MakeFile(1, "a", 0), MakeFile(0, "b", 0), MakeFile(0, "a", 1), MakeLink(0, "a", 0, "x"),
        MakeLink(1, "a", 0, "x"), MakeLink(0, "b", 0, "x"), MakeLink(0, "a", 1, "x"), MakeLink(0, "a", 0, "y"),
        Put(0, "a", 0), Put(1, "a", 0), Put(0, "b", 0), Put(0, "a", 1), Take(0, "a"), Take(1, "a"), Take(0, "b"),
        Move(0, "a", 0, "a"), Move(1, "a", 0, "a"), Move(0, "b", 0, "a"), Move(0, "a", 1, "a"), Move(0, "a", 0, "b"),
        Outcome(Came(0), 1, (), ()), Outcome(Came(1), 1, (), ()), Outcome(Came(0), 2, (), ()),
        Outcome(Came(0), 1, (0,), ()), Outcome(Came(0), 1, (), (0,)), Others(0, []), Others(1, []), Others(0, [0]),
        Others(0, [0, 1]), New("file"), New("link"), Certificate([]), Certificate(["look"]),
        Certificate([Take(0, "a"), "look"]), Certificate([Take(0, "b"), "look"]), Find(path), Find(other),
        Make("file", path), Make("folder", path), Make("file", other), Remove(path), Remove(other), Shift(path, other),
        Shift(other, path), Shift(path, path), Process(0, PLAIN, 0, []), Process(1, PLAIN, 0, []),
        Process(0, Look(True, True, None), 0, []), Process(0, PLAIN, 1, []), Process(0, PLAIN, 0, [Find(path)]), Done(),
        Made(0, 0), Made(1, 0), Made(0, 1), Ending([], 0, False, 0), Ending([[]], 0, False, 0), Ending([], 1, False, 0),
        Ending([], 0, True, 0), Ending([], 0, False, 1),
    ]


class EqualityTest(unittest.TestCase):
    def test_alone_and_in_lists_and_tuples(self):
        for (i, one), (j, other) in itertools.product(enumerate(variants()), enumerate(variants())):
            same = i == j
            self.assertIs(one == other, same)
            self.assertIs(one != other, not same)
            self.assertIs([one] == [other], same)
            self.assertIs((0, one) != (0, other), not same)
            self.assertIs(one in [other], same)

    def test_within_trees_and_certificates(self):
        for one, other in itertools.permutations([Folder(1, []), Folder(2, []), File(1), Link(1, "a"), Link(1, "b")],
                                                 2):
            first, second = (Tree([Folder(0, [("a", 1)]), node]) for node in (one, other))
            self.assertIs(first == second, False)
            self.assertIs(first == Tree([Folder(0, [("a", 1)]), one]), True)
        deeds = [one for one in variants() if one.__class__ in (MakeFolder, MakeFile, MakeLink, Put, Take, Move)]
        for (i, one), (j, other) in itertools.product(enumerate(deeds), repeat=2):
            self.assertIs(Certificate([one, "look"]) == Certificate((other, "look")), i == j)
        self.assertIs(Process(0, PLAIN, 0, [Find(read_path("a"))]) == Process(0, PLAIN, 0, [Find(read_path("b"))]),
                      False)

    def test_as_read_from_texts(self):
        deeds = [one for one in variants() if one.__class__ in (MakeFolder, MakeFile, MakeLink, Put, Take, Move)]
        for (i, one), (j, other) in itertools.product(enumerate(deeds), repeat=2):
            self.assertIs(read_row(row_text([one])) == [other], i == j)
            self.assertIs(other == read_row(row_text([one]))[0], i == j)
        texts = ["folder 0", "folder 1", "folder 0; file 0", "folder 0 a=1; file 0", "folder 0 a=1; file 1",
                 "folder 0 a=1; link 0 a", "folder 0 a=1; link 0 ./a", "folder 0; gone 0 0", "folder 0 a=1; folder 0"]
        for one, other in itertools.product(texts, repeat=2):
            self.assertIs(read_tree(one) == read_tree(other), one == other)
            self.assertIs(read_tree(one) != read_tree(other), one != other)
        self.assertEqual(read_tree("folder 0 b=2 a=1; file 0; file 0"), read_tree("folder 0 a=1 b=2; file 0; file 0"))
        self.assertEqual(read_path("a//b/"), read_path("./a/./b/."))

    def test_other_values(self):
        for one in variants():
            for other in (None, 0, 1, "", "none", (), [], {}, object(), one.__class__, vars(one),
                          tuple(vars(one).values())):
                self.assertIs(one == other, False)
                self.assertIs(other == one, False)
                self.assertIs(one != other, True)


class SameAgainTest(unittest.TestCase):
    def test_equal_arguments_have_equal_results(self):
        """Lists and tuples count as equal, whatever was asked in between."""
        for rng, asked in drawn(167, 60):
            tree, others, place, path, look = asked
            twin = Tree(list(tree.nodes))
            them = Others(others.owner, list(others.folders))
            again = (twin, them, place, Path(list(path.steps), path.absolute, path.folder),
                     Look(look.follow, look.last, None if look.owners is None else list(look.owners)))
            found = reach(*asked)
            self.assertEqual(reach(*again), found)
            for result in found[::-1]:
                self.assertEqual(certificate(*again, result), certificate(*asked, result))
                self.assertEqual(guards(*again, [result]), guards(*asked, (result, result)))


if __name__ == "__main__":
    unittest.main()
