"""What the document's interface lists: names, arguments, and the file that defines each."""

import ast
import inspect
import pathlib
import unittest

from namewalk import (
    certificates, climbing, deeds, desk, endings, errors, guarding, listings, others, paths, processes, reaching,
    session, trees, walking, walktexts, weavings,
)

FIELDS = {
    errors.NoTree: ["why", "node"], errors.NoNode: ["node"], errors.BadText: ["place"],
    errors.NoOwner: ["owner"], errors.NoDeed: ["why"], errors.NoRow: ["index", "why"],
    errors.Large: ["count"], paths.Path: ["steps", "absolute", "folder"],
    trees.Folder: ["owner", "entries"], trees.File: ["owner"], trees.Link: ["owner", "text"],
    trees.Gone: ["owner", "above"], trees.Tree: ["nodes"],
    walking.Look: ["follow", "last", "owners"], walking.Came: ["node"], walking.Refused: ["why"],
    deeds.MakeFolder: ["folder", "name", "owner"], deeds.MakeFile: ["folder", "name", "owner"],
    deeds.MakeLink: ["folder", "name", "owner", "text"], deeds.Put: ["folder", "name", "node"],
    deeds.Take: ["folder", "name"], deeds.Move: ["folder", "name", "goal", "other"],
    weavings.Outcome: ["result", "count", "first", "last"],
    others.Others: ["owner", "folders"], reaching.New: ["kind"], certificates.Certificate: ["parts"],
    processes.Find: ["path"], processes.Make: ["kind", "path"], processes.Remove: ["path"],
    processes.Shift: ["path", "other"], processes.Process: ["place", "look", "owner", "calls"],
    processes.Made: ["process", "call"], endings.Ending: ["results", "count", "whole", "timely"],
    session.Session: ["tree", "others"], desk.Desk: ["tree", "others"],
}

WALK = ["tree", "place", "path", "look"]
WOVEN = ["tree", "deeds", "place", "path", "look"]
REACHED = ["tree", "others", "place", "path", "look"]

FUNCTIONS = {
    paths.read_path: ["text"], paths.path_text: ["path"], trees.above: ["tree", "node"],
    trees.entries_of: ["tree", "node"], trees.alike: ["one", "other"],
    walking.walk: WALK, walking.stands: WALK, deeds.done: ["tree", "deed"], deeds.trees: ["tree", "deeds"],
    weavings.led_by: WOVEN + ["weaving"], weavings.results: WOVEN, weavings.moments: WOVEN + ["result"],
    weavings.unexplained: WOVEN, weavings.accepts: WOVEN + ["weaving", "again"],
    listings.listing: ["tree", "deeds", "place", "weaving"], listings.listings: ["tree", "deeds", "place"],
    climbing.climb: ["tree", "deeds", "place", "weaving"], climbing.climbs: ["tree", "deeds", "place"],
    others.may: ["tree", "others", "deed"], others.loose: ["tree", "others"], others.pieces: ["tree", "others"],
    others.arrangements: ["tree", "others"], reaching.reach: REACHED, reaching.touched: REACHED,
    certificates.certificate: REACHED + ["result"], certificates.holds: REACHED + ["result", "certificate"],
    guarding.guards: REACHED + ["allowed"], endings.endings: ["tree", "processes"],
    walktexts.tree_text: ["tree"], walktexts.read_tree: ["text"], walktexts.row_text: ["deeds"],
    walktexts.read_row: ["text"], walktexts.result_text: ["result"],
}


class InterfaceTest(unittest.TestCase):
    def test_nothing_is_imported_that_knows_of_clocks_chance_or_files(self):
        files = sorted(pathlib.Path(errors.__file__).parent.glob("*.py"))
        self.assertGreater(len(files), 20)
        for file in files:
            for node in ast.walk(ast.parse(file.read_text())):
                self.assertNotIsInstance(node, ast.Import)
                if isinstance(node, ast.ImportFrom):
                    self.assertTrue(node.module == "itertools" or node.module.startswith("namewalk."))

    def test_arguments_have_their_names_and_order(self):
        for listed, names in list(FIELDS.items()) + list(FUNCTIONS.items()):
            with self.subTest(listed.__name__):
                found = inspect.signature(listed).parameters.values()
                self.assertEqual([one.name for one in found], names)
                self.assertTrue(all(one.kind == one.POSITIONAL_OR_KEYWORD for one in found))

    def test_each_is_defined_in_the_file_that_lists_it(self):
        for module, names in (
            (errors, "WalkError NoTree NoNode BadText NoPath NoOwner NoDeed NoRow NoWeaving Large Busy Idle "
                     "Forbidden NoBack"),
            (paths, "Path read_path path_text"),
            (trees, "Folder File Link Gone Tree above entries_of alike"),
            (walking, "Look Came Refused walk stands"),
            (deeds, "MakeFolder MakeFile MakeLink Put Take Move done trees"),
            (weavings, "Outcome led_by results moments unexplained accepts"),
            (listings, "listing listings"), (climbing, "climb climbs"),
            (others, "Others may loose pieces arrangements"), (reaching, "New reach touched"),
            (certificates, "Certificate certificate holds"), (guarding, "guards"),
            (processes, "Find Make Remove Shift Process Done Made"), (endings, "Ending endings"),
            (session, "Session"), (walktexts, "tree_text read_tree row_text read_row result_text"), (desk, "Desk"),
        ):
            for name in names.split():
                with self.subTest(name):
                    self.assertEqual(getattr(module, name).__module__, module.__name__)

    def test_methods_are_defined_in_their_classes(self):
        for cls, methods in (
            (session.Session, {"begin": ["place", "path", "look"], "step": [], "do": ["deed"], "now": [], "can": [],
                               "history": [], "back": [], "many": []}),
            (desk.Desk, {"tell": ["row"]}),
        ):
            for name, names in methods.items():
                found = list(inspect.signature(vars(cls)[name]).parameters.values())[1:]
                self.assertEqual([one.name for one in found], names)
                self.assertTrue(all(one.kind == one.POSITIONAL_OR_KEYWORD for one in found))

    def test_fields_are_set_and_arguments_passed_by_keyword(self):
        node = trees.Folder(entries=[("f", 1)], owner=3)
        self.assertEqual((node.owner, node.entries), (3, (("f", 1),)))
        self.assertEqual(trees.File(owner=4).owner, 4)
        link = trees.Link(text="a/./b", owner=5)
        self.assertEqual((link.owner, link.text), (5, "a/./b"))
        gone = trees.Gone(above=0, owner=6)
        self.assertEqual((gone.owner, gone.above), (6, 0))
        tree = trees.Tree(nodes=[node, trees.File(0)])
        self.assertEqual(tree.nodes, (node, trees.File(0)))
        path = paths.Path(folder=True, absolute=False, steps=["a"])
        self.assertEqual((path.steps, path.absolute, path.folder), (("a",), False, True))
        self.assertEqual(paths.path_text(path=paths.read_path(text="a/")), "a/")
        self.assertEqual(trees.above(node=0, tree=tree), 0)
        self.assertEqual(trees.entries_of(node=1, tree=tree), [(0, "f")])
        self.assertIs(trees.alike(other=tree, one=tree), True)

    def test_walks_and_weavings_by_keyword(self):
        tree = trees.Tree([trees.Folder(0, [("f", 1)]), trees.File(0)])
        look = walking.Look(owners=[0], last=True, follow=False)
        self.assertEqual((look.follow, look.last, look.owners), (False, True, (0,)))
        came = walking.Came(node=1)
        asked = {"look": look, "path": paths.read_path("f"), "place": 0, "tree": tree}
        self.assertEqual(walking.walk(**asked), came)
        self.assertEqual(walking.stands(**asked), [0, 1])
        take = deeds.Take(name="f", folder=0)
        asked["deeds"] = [take]
        self.assertEqual(weavings.led_by(weaving=(0,), **asked), came)
        self.assertEqual(weavings.results(**asked)[0], weavings.Outcome(last=(0,), first=(0,), count=1, result=came))
        self.assertEqual(weavings.moments(result=walking.Refused(why="none"), **asked), [1])
        self.assertEqual(weavings.unexplained(**asked), [])
        self.assertIs(weavings.accepts(again=[1], weaving=[0], **asked), False)

    def test_listings_and_climbs_by_keyword(self):
        tree = trees.Tree([trees.Folder(0, [("d", 1)]), trees.Folder(0, [])])
        asked = {"place": 1, "deeds": [deeds.Take(0, "d")], "tree": tree}
        self.assertEqual(listings.listing(weaving=(1,), **asked), [])
        self.assertEqual(listings.listings(**asked), [([], 2)])
        self.assertEqual(climbing.climb(weaving=[0], **asked), "/d")
        self.assertEqual(climbing.climbs(**asked), [("/d", 1, True), (walking.Refused("gone"), 1, True)])

    def test_others_by_keyword(self):
        tree = trees.Tree([trees.Folder(0, [("d", 1)]), trees.Folder(0, [("e", 2)]), trees.Folder(0, [])])
        asked = {"others": others.Others(folders=[2, 1], owner=3), "tree": tree}
        self.assertEqual((asked["others"].owner, asked["others"].folders), (3, (2, 1)))
        self.assertIs(others.may(deed=deeds.Take(1, "e"), **asked), True)
        self.assertEqual(others.loose(**asked), [2])
        self.assertEqual(others.pieces(**asked), [[0, 1], [2]])
        self.assertEqual(others.arrangements(**asked), 1)
        asked.update(look=walking.Look(False, False, [3]), path=paths.read_path("d/e/.."), place=0)
        self.assertEqual(reaching.reach(**asked), [walking.Refused("owner")])
        self.assertEqual(reaching.touched(**asked), [])
        self.assertEqual(reaching.New(kind="file").kind, "file")

    def test_deeds_by_keyword(self):
        tree = trees.Tree([trees.Folder(0, [("f", 1)]), trees.File(0)])
        row = [deeds.MakeFolder(owner=1, name="d", folder=0), deeds.MakeFile(owner=2, name="g", folder=2),
               deeds.MakeLink(text="d", owner=3, name="l", folder=0), deeds.Put(node=1, name="p", folder=2),
               deeds.Move(other="m", goal=2, name="f", folder=0), deeds.Take(name="m", folder=2)]
        after = deeds.trees(deeds=row, tree=tree)
        self.assertEqual(after[-1], trees.Tree([
            trees.Folder(0, [("d", 2), ("l", 4)]), trees.File(0), trees.Folder(1, [("g", 3), ("p", 1)]), trees.File(2),
            trees.Link(3, "d")]))
        self.assertEqual(deeds.done(deed=row[0], tree=tree), after[1])


    def test_certificates_and_guards_by_keyword(self):
        tree = trees.Tree([trees.Folder(0, [("d", 1)]), trees.Folder(0, [("e", 2)]), trees.Folder(0, [])])
        asked = {"look": walking.Look(False, False, None), "path": paths.read_path("d/e"), "place": 0,
                 "others": others.Others(3, [1]), "tree": tree}
        found = certificates.certificate(result=walking.Came(2), **asked)
        self.assertEqual(found, certificates.Certificate(parts=["look", "look"]))
        self.assertIs(certificates.holds(certificate=found, result=walking.Came(2), **asked), True)
        self.assertEqual(guarding.guards(allowed=[walking.Came(2)], **asked), [1])

    def test_processes_by_keyword(self):
        path, other = paths.read_path("f"), paths.read_path("g")
        calls = [processes.Find(path=path), processes.Make(path=path, kind="file"),
                 processes.Shift(other=other, path=path), processes.Remove(path=other)]
        process = processes.Process(calls=calls, owner=0, look=walking.Look(False, False, None), place=0)
        found = endings.endings(processes=[process], tree=trees.Tree([trees.Folder(0, [])]))
        results = [[walking.Refused("none")] + [processes.Done()] * 3]
        self.assertEqual(found, [endings.Ending(timely=1, whole=True, count=1, results=results)])
        self.assertNotEqual(processes.Made(call=0, process=1), processes.Made(0, 1))

    def test_sessions_and_desks_by_keyword(self):
        tree = trees.Tree([trees.Folder(0, [("d", 1)]), trees.Folder(0, [])])
        played = session.Session(others=others.Others(3, [0, 1]), tree=tree)
        played.begin(look=walking.Look(False, False, None), path=paths.read_path("d"), place=0)
        played.do(deed=deeds.Take(0, "d"))
        self.assertEqual(played.step(), walking.Refused("none"))
        self.assertEqual(desk.Desk(others=others.Others(3, [0, 1]), tree=tree).tell(row="take 0 d"), ["done"])

    def test_texts_by_keyword(self):
        tree = trees.Tree([trees.Folder(0, [])])
        self.assertEqual(walktexts.tree_text(tree=tree), "folder 0")
        self.assertEqual(walktexts.read_tree(text="folder 0"), tree)
        self.assertEqual(walktexts.row_text(deeds=[]), "nothing")
        self.assertEqual(walktexts.read_row(text="nothing"), [])
        self.assertEqual(walktexts.result_text(result=walking.Came(1)), "came 1")


if __name__ == "__main__":
    unittest.main()
