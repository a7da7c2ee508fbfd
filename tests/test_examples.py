"""The examples of the document that need only the modules that are there."""

import unittest

from namewalk.errors import BadText, NoPath, NoTree
from namewalk.paths import Path, path_text, read_path
from namewalk.trees import File, Folder, Tree, above, entries_of


class ExamplesTest(unittest.TestCase):
    def test_read_path(self):
        path = read_path('a//./b/')
        self.assertEqual((path.steps, path.absolute, path.folder), (('a', 'b'), False, True))

    def test_bad_text(self):
        with self.assertRaises(BadText) as caught:
            read_path('a/B')
        self.assertEqual(caught.exception.place, 2)

    def test_path_text(self):
        self.assertEqual(path_text(read_path('/a/./../')), '/a/..')

    def test_no_path(self):
        with self.assertRaises(NoPath):
            Path(('..',), False, False)

    def test_no_tree(self):
        with self.assertRaises(NoTree) as caught:
            Tree([Folder(0, [('a', 1), ('b', 1)]), Folder(0, [])])
        self.assertEqual((caught.exception.why, caught.exception.node), ('entries', 1))

    def test_above_and_entries(self):
        tree = Tree([Folder(0, [('a', 1), ('f', 2)]), Folder(1, [('b', 3)]), File(0), File(1)])
        self.assertEqual((above(tree, 1), above(tree, 2), entries_of(tree, 3)), (0, None, [(1, 'b')]))


if __name__ == "__main__":
    unittest.main()
