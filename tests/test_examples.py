"""The examples of the document."""

import unittest

from namewalk.climbing import climb
from namewalk.deeds import MakeFile, Move, Take, done
from namewalk.desk import Desk
from namewalk.endings import endings
from namewalk.errors import BadText, NoDeed, NoPath, NoTree
from namewalk.guarding import guards
from namewalk.listings import listing
from namewalk.others import Others, arrangements, loose, pieces
from namewalk.paths import Path, path_text, read_path
from namewalk.processes import Find, Make, Process, Shift
from namewalk.reaching import reach, touched
from namewalk.session import Session
from namewalk.trees import File, Folder, Link, Tree, above, entries_of
from namewalk.walking import Came, Look, stands, walk
from namewalk.walktexts import read_row, result_text, tree_text
from namewalk.weavings import accepts, results, unexplained


class ExamplesTest(unittest.TestCase):
    def test_read_path(self):
        path = read_path('a//./b/')
        self.assertEqual((path.steps, path.absolute, path.folder), (('a', 'b'), False, True))

    def test_bad_text(self):
        with self.assertRaises(BadText) as caught:
            read_path('a/B')
        self.assertEqual(caught.exception.place, 2)

    def test_path_text(self):
        self.assertEqual(path_text(read_path('/a/./../')), '/a/..')

    def test_no_path(self):
        with self.assertRaises(NoPath):
            Path(('..',), False, False)

    def test_no_tree(self):
        with self.assertRaises(NoTree) as caught:
            Tree([Folder(0, [('a', 1), ('b', 1)]), Folder(0, [])])
        self.assertEqual((caught.exception.why, caught.exception.node), ('entries', 1))

    def test_above_and_entries(self):
        tree = Tree([Folder(0, [('a', 1), ('f', 2)]), Folder(1, [('b', 3)]), File(0), File(1)])
        self.assertEqual((above(tree, 1), above(tree, 2), entries_of(tree, 3)), (0, None, [(1, 'b')]))

    def test_walks(self):
        tree = Tree([Folder(0, [('a', 1), ('f', 2)]), Folder(1, [('b', 3)]), File(0), File(1)])
        look = Look(False, False, None)
        found = (walk(tree, 0, read_path('a/b'), look).node, walk(tree, 0, read_path('f/b'), look).why,
                 stands(tree, 1, read_path('../a'), look))
        self.assertEqual(found, (3, 'file', [1, 0, 1]))

    def test_links(self):
        tree = Tree([Folder(0, [('d', 1), ('l', 2)]), Folder(0, [('x', 3)]), Link(0, 'd'), File(0)])
        found = (walk(tree, 0, read_path('l/x'), Look(True, False, None)).node,
                 walk(tree, 0, read_path('l'), Look(True, False, None)).node,
                 walk(tree, 0, read_path('l/'), Look(True, False, None)).node)
        self.assertEqual(found, (3, 2, 1))

    def test_no_deed(self):
        tree = Tree([Folder(0, [('a', 1)]), Folder(0, [('b', 2), ('c', 3)]), Folder(0, []), File(0)])
        with self.assertRaises(NoDeed) as caught:
            done(tree, Move(0, 'a', 2, 'd'))
        self.assertEqual(caught.exception.why, 'below')

    def test_results(self):
        tree = Tree([Folder(0, [('a', 1)]), Folder(0, [])])
        deeds = [Move(0, 'a', 0, 'c'), MakeFile(1, 'b', 0)]
        look = Look(False, False, None)
        found = [(result_text(one.result), one.count, one.first, one.last)
                 for one in results(tree, deeds, 0, read_path('a/b'), look)]
        self.assertEqual(found, [('refused none', 4, (0, 0), (2,)), ('came 2', 1, (0, 2), (0, 2))])

    def test_unexplained_and_accepts(self):
        tree = Tree([Folder(0, [('a', 1)]), Folder(0, [])])
        deeds = [Move(0, 'a', 0, 'c'), MakeFile(1, 'b', 0)]
        look = Look(False, False, None)
        path = read_path('a/b')
        found = ([result.node for result in unexplained(tree, deeds, 0, path, look)],
                 accepts(tree, deeds, 0, path, look, (0, 2), (2, 2)))
        self.assertEqual(found, ([2], False))

    def test_climb(self):
        tree = Tree([Folder(0, [('p', 1)]), Folder(0, [('x', 2)]), Folder(0, [])])
        self.assertEqual(climb(tree, [Move(1, 'x', 0, 'z'), Move(0, 'p', 0, 'q')], 2, (0, 2)), '/q/x')

    def test_listing(self):
        tree = Tree([Folder(0, [('a', 1), ('f', 2)]), Folder(1, [('b', 3)]), File(0), File(1)])
        found = (listing(tree, [Take(1, 'b')], 0, (0, 0)), listing(tree, [Take(1, 'b')], 0, (0, 1)))
        self.assertEqual(found, ([1, 3, 2], [1, 2]))

    def test_others(self):
        tree = Tree([Folder(0, [('a', 1)]), Folder(0, [('b', 2), ('c', 3)]), Folder(0, []), File(0)])
        others = Others(5, [1, 2])
        found = (loose(tree, others), pieces(tree, others), arrangements(tree, others))
        self.assertEqual(found, ([2, 3], [[0, 1], [2]], 2))

    def test_reach(self):
        tree = Tree([Folder(0, [('a', 1)]), Folder(0, [('b', 2), ('c', 3)]), Folder(0, []), File(0)])
        others = Others(5, [1, 2])
        look = Look(False, False, None)
        path = read_path('a/b')
        found = ([result_text(result) for result in reach(tree, others, 0, path, look)],
                 touched(tree, others, 0, path, look))
        self.assertEqual(found, (['came 2', 'came 3', 'new folder', 'new file', 'new link', 'refused none'], [1]))

    def test_guards(self):
        tree = Tree([Folder(0, [('a', 1)]), Folder(0, [('b', 2), ('c', 3)]), Folder(0, []), File(0)])
        look = Look(False, False, None)
        self.assertEqual(guards(tree, Others(5, [1, 2]), 0, read_path('a/b'), look, [Came(2)]), [1])

    def test_endings(self):
        tree = Tree([Folder(0, [('a', 1)]), Folder(0, [])])
        look = Look(False, False, None)
        one = Process(0, look, 0, [Shift(read_path('a'), read_path('c')), Make('file', read_path('c/b'))])
        two = Process(0, look, 0, [Find(read_path('a/b'))])
        found = [(one.count, one.whole, one.timely) for one in endings(tree, [one, two])]
        self.assertEqual(found, [(1, False, 0), (6, True, 6)])

    def test_tree_text(self):
        tree = Tree([Folder(0, [('a', 1), ('f', 2)]), Folder(1, [('b', 3)]), File(0), File(1)])
        self.assertEqual(tree_text(tree), 'folder 0 a=1 f=2; folder 1 b=3; file 0; file 1')

    def test_read_row(self):
        with self.assertRaises(BadText) as caught:
            read_row('take 1 b, move 0 a 0')
        self.assertEqual(caught.exception.place, 1)

    def test_session(self):
        tree = Tree([Folder(0, [('a', 1), ('f', 2)]), Folder(1, [('b', 3)]), File(0), File(1)])
        look = Look(False, False, None)
        session = Session(tree, Others(5, [1]))
        session.begin(0, read_path('a/b'), look)
        self.assertEqual((session.step(), session.step().node, session.many()), (None, 3, 3))

    def test_desk(self):
        tree = Tree([Folder(0, [('a', 1), ('f', 2)]), Folder(1, [('b', 3)]), File(0), File(1)])
        desk = Desk(tree, Others(5, [1]))
        desk.tell('begin 0 plain a/b')
        desk.tell('step')
        self.assertEqual(desk.tell('can'), ['came 3', 'new folder', 'new file', 'new link', 'refused none'])

    def test_desk_refuses(self):
        tree = Tree([Folder(0, [('a', 1), ('f', 2)]), Folder(1, [('b', 3)]), File(0), File(1)])
        desk = Desk(tree, Others(5, [1]))
        self.assertEqual(desk.tell('take 0 f'), ['refused forbidden'])


if __name__ == "__main__":
    unittest.main()
