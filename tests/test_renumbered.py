"""Points [3] to [20]: in a tree and in the same one with its nodes renumbered all is the same, but for the numbers."""

import unittest

from namewalk.certificates import certificate, holds
from namewalk.climbing import climbs
from namewalk.deeds import Move, Put, Take, done, trees
from namewalk.errors import NoDeed, WalkError
from namewalk.guarding import guards
from namewalk.listings import listings
from namewalk.others import Others, arrangements, loose, may, pieces
from namewalk.paths import read_path
from namewalk.reaching import reach, touched
from namewalk.trees import Folder, Gone, Link, Tree, above, alike, entries_of
from namewalk.walking import Came, Refused, stands, walk
from namewalk.weavings import accepts, led_by, moments, results, unexplained
from tests.drawn import draw_deed, draw_look, draw_path, draw_row, draw_tree, generator, places


class Renumbering:
    """Tells for the number of each old node its new one; nodes that are made later keep theirs."""

    def __init__(self, rng, many):
        order = list(range(1, many))
        rng.shuffle(order)
        self.numbers = [0] + order

    def number(self, old):
        return self.numbers[old] if old < len(self.numbers) else old

    def node(self, node):
        if isinstance(node, Folder):
            return Folder(node.owner, [(name, self.number(inner)) for name, inner in node.entries])
        return Gone(node.owner, self.number(node.above)) if isinstance(node, Gone) else node

    def tree(self, tree):
        nodes = list(tree.nodes)
        for old, node in enumerate(tree.nodes):
            nodes[self.number(old)] = self.node(node)
        return Tree(nodes)

    def deed(self, deed):
        if isinstance(deed, Move):
            return Move(self.number(deed.folder), deed.name, self.number(deed.goal), deed.other)
        if isinstance(deed, Put):
            return Put(self.number(deed.folder), deed.name, self.number(deed.node))
        if isinstance(deed, Take):
            return Take(self.number(deed.folder), deed.name)
        return deed.__class__(**dict(vars(deed), folder=self.number(deed.folder)))

    def result(self, result):
        return Came(self.number(result.node)) if isinstance(result, Came) else result

    def results(self, results):
        """The results in the order of reach: nodes ascending, then the others as they are."""
        came = sorted(self.number(one.node) for one in results if isinstance(one, Came))
        return [Came(number) for number in came] + [one for one in results if not isinstance(one, Came)]

    def others(self, others):
        return Others(others.owner, [self.number(folder) for folder in others.folders])

    def ascending(self, numbers):
        return sorted(self.number(number) for number in numbers)


def drawn(number, many, most=8, kinds="dddfflg"):
    rng = generator(number)
    for _ in range(many):
        tree = draw_tree(rng, rng.randint(2, most), kinds=kinds)
        yield rng, tree, Renumbering(rng, len(tree.nodes))


def few_links(tree):
    links = [node for node in tree.nodes if isinstance(node, Link)]
    return len(links) <= 2 and not [1 for link in links if len(read_path(link.text).steps) > 2]


class RenumberedTest(unittest.TestCase):
    def test_trees(self):
        for _, tree, new in drawn(101, 200):
            other = new.tree(tree)
            self.assertIs(alike(tree, other), True)
            for number in range(len(tree.nodes)):
                home = above(tree, number)
                self.assertEqual(above(other, new.number(number)), None if home is None else new.number(home))
                entries = sorted((new.number(folder), name) for folder, name in entries_of(tree, number))
                self.assertEqual(entries_of(other, new.number(number)), entries)

    def test_walks(self):
        for rng, tree, new in drawn(102, 300):
            other = new.tree(tree)
            for _ in range(5):
                place, path, look = rng.choice(places(tree)), draw_path(rng, 5), draw_look(rng)
                self.assertEqual(walk(other, new.number(place), path, look), new.result(walk(tree, place, path, look)))
                self.assertEqual(stands(other, new.number(place), path, look),
                                 [new.number(at) for at in stands(tree, place, path, look)])

    def test_deeds(self):
        for rng, tree, new in drawn(103, 300):
            deed = draw_deed(rng, tree)
            try:
                after = done(tree, deed)
            except NoDeed as error:
                with self.assertRaises(NoDeed) as caught:
                    done(new.tree(tree), new.deed(deed))
                self.assertEqual(caught.exception.why, error.why)
            else:
                self.assertEqual(done(new.tree(tree), new.deed(deed)), new.tree(after))

    def test_results_among_deeds(self):
        for rng, tree, new in drawn(104, 150):
            row = draw_row(rng, tree, rng.randint(0, 4))
            other, deeds = new.tree(tree), [new.deed(deed) for deed in row]
            self.assertEqual(trees(other, deeds), [new.tree(one) for one in trees(tree, row)])
            place, path, look = rng.choice(places(tree)), draw_path(rng, 4), draw_look(rng)
            asked, again = (tree, row, place, path, look), (other, deeds, new.number(place), path, look)
            found = results(*asked)
            self.assertEqual([vars(one) for one in results(*again)],
                             [dict(vars(one), result=new.result(one.result)) for one in found])
            self.assertEqual(unexplained(*again), [new.result(one) for one in unexplained(*asked)])
            for one in found:
                self.assertEqual(moments(*again, new.result(one.result)), moments(*asked, one.result))
                for weaving in (one.first, one.last):
                    self.assertEqual(led_by(*again, weaving), new.result(led_by(*asked, weaving)))
                    later = [rng.randint(weaving[-1], len(row))] * len(weaving) if weaving else []
                    self.assertIs(accepts(*again, weaving, later), accepts(*asked, weaving, later))

    def test_listings_and_climbs(self):
        for rng, tree, new in drawn(105, 150, 6):
            row = draw_row(rng, tree, rng.randint(0, 3))
            other, deeds, place = new.tree(tree), [new.deed(deed) for deed in row], rng.choice(places(tree))
            found = [([new.number(number) for number in met], many) for met, many in listings(tree, row, place)]
            self.assertEqual(listings(other, deeds, new.number(place)), sorted(found))
            self.assertEqual(climbs(other, deeds, new.number(place)), climbs(tree, row, place))

    def test_others(self):
        for rng, tree, new in drawn(106, 300):
            others = self.others(rng, tree)
            other, them = new.tree(tree), new.others(others)
            self.assertEqual(loose(other, them), new.ascending(loose(tree, others)))
            self.assertEqual(arrangements(other, them), arrangements(tree, others))
            expected = sorted(new.ascending(piece) for piece in pieces(tree, others))
            self.assertEqual(sorted(pieces(other, them)), expected)
            for _ in range(10):
                deed = draw_deed(rng, tree)
                self.assertIs(may(other, them, new.deed(deed)), may(tree, others, deed))

    def others(self, rng, tree):
        folders = [number for number, node in enumerate(tree.nodes) if isinstance(node, Folder)]
        return Others(rng.randrange(3), rng.sample(folders, rng.randint(0, len(folders))))

    def test_reach_and_certificates(self):
        for rng, tree, new in drawn(107, 200, 8, "dddflg"):
            if few_links(tree):
                others, place = self.others(rng, tree), rng.choice(places(tree))
                path, look = draw_path(rng, 4), draw_look(rng)
                asked = (tree, others, place, path, look)
                again = (new.tree(tree), new.others(others), new.number(place), path, look)
                found = reach(*asked)
                self.assertEqual(reach(*again), new.results(found))
                self.assertEqual(touched(*again), new.ascending(touched(*asked)))
                for result in found + [Came(number) for number in range(len(tree.nodes))] + [Refused("none")]:
                    one = certificate(*again, new.result(result))
                    self.assertEqual(one is not None, result in found)
                    if one is not None:
                        self.assertIs(holds(*again, new.result(result), one), True)

    def test_guards(self):
        for rng, tree, new in drawn(108, 150, 7, "dddfl"):
            others, place = self.others(rng, tree), rng.choice(places(tree))
            path, look = draw_path(rng, 3), draw_look(rng)
            if few_links(tree) and len(others.folders) <= 8:
                for allowed in ([walk(tree, place, path, look)], reach(tree, others, place, path, look)[::2]):
                    found = guards(tree, others, place, path, look, allowed)
                    other = guards(new.tree(tree), new.others(others), new.number(place), path, look,
                                   [new.result(result) for result in allowed])
                    self.assertEqual(None if found is None else len(found), None if other is None else len(other))

    def test_errors(self):
        for rng, tree, new in drawn(109, 200):
            asked = (self.others(rng, tree), rng.randrange(len(tree.nodes)), draw_path(rng, 3), draw_look(rng))
            again = (new.others(asked[0]), new.number(asked[1])) + asked[2:]
            if asked[1] not in places(tree):
                with self.assertRaises(WalkError) as caught:
                    reach(new.tree(tree), *again)
                self.assertEqual(caught.exception.node, again[1])


if __name__ == "__main__":
    unittest.main()
