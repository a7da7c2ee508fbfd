"""What the document's interface lists: names, arguments, and the file that defines each."""

import inspect
import unittest

from namewalk import errors, paths, trees

FIELDS = {
    errors.NoTree: ["why", "node"], errors.NoNode: ["node"], errors.BadText: ["place"],
    errors.NoOwner: ["owner"], errors.NoDeed: ["why"], errors.NoRow: ["index", "why"],
    errors.Large: ["count"], paths.Path: ["steps", "absolute", "folder"],
    trees.Folder: ["owner", "entries"], trees.File: ["owner"], trees.Link: ["owner", "text"],
    trees.Gone: ["owner", "above"], trees.Tree: ["nodes"],
}

FUNCTIONS = {
    paths.read_path: ["text"], paths.path_text: ["path"], trees.above: ["tree", "node"],
    trees.entries_of: ["tree", "node"], trees.alike: ["one", "other"],
}


class InterfaceTest(unittest.TestCase):
    def test_arguments_have_their_names_and_order(self):
        for listed, names in list(FIELDS.items()) + list(FUNCTIONS.items()):
            with self.subTest(listed.__name__):
                found = inspect.signature(listed).parameters.values()
                self.assertEqual([one.name for one in found], names)
                self.assertTrue(all(one.kind == one.POSITIONAL_OR_KEYWORD for one in found))

    def test_each_is_defined_in_the_file_that_lists_it(self):
        for module, names in (
            (errors, "WalkError NoTree NoNode BadText NoPath NoOwner NoDeed NoRow NoWeaving Large Busy Idle "
                     "Forbidden NoBack"),
            (paths, "Path read_path path_text"),
            (trees, "Folder File Link Gone Tree above entries_of alike"),
        ):
            for name in names.split():
                with self.subTest(name):
                    self.assertEqual(getattr(module, name).__module__, module.__name__)

    def test_fields_are_set_and_arguments_passed_by_keyword(self):
        node = trees.Folder(entries=[("f", 1)], owner=3)
        self.assertEqual((node.owner, node.entries), (3, (("f", 1),)))
        self.assertEqual(trees.File(owner=4).owner, 4)
        link = trees.Link(text="a/./b", owner=5)
        self.assertEqual((link.owner, link.text), (5, "a/./b"))
        gone = trees.Gone(above=0, owner=6)
        self.assertEqual((gone.owner, gone.above), (6, 0))
        tree = trees.Tree(nodes=[node, trees.File(0)])
        self.assertEqual(tree.nodes, (node, trees.File(0)))
        path = paths.Path(folder=True, absolute=False, steps=["a"])
        self.assertEqual((path.steps, path.absolute, path.folder), (("a",), False, True))
        self.assertEqual(paths.path_text(path=paths.read_path(text="a/")), "a/")
        self.assertEqual(trees.above(node=0, tree=tree), 0)
        self.assertEqual(trees.entries_of(node=1, tree=tree), [(0, "f")])
        self.assertIs(trees.alike(other=tree, one=tree), True)


if __name__ == "__main__":
    unittest.main()
