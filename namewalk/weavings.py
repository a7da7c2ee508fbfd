"""Weavings: all the ways in which a walk's looks and a row's deeds can follow each other."""

from namewalk.errors import NoWeaving
from namewalk.rows import is_weaving, played, views_of
from namewalk.views import ended_in
from namewalk.walking import begun


class Outcome:
    """A result, how many weavings lead to it, and the least and the greatest of them."""

    def __init__(self, result, count, first, last):
        self.result = result
        self.count = count
        self.first = tuple(first)
        self.last = tuple(last)

    def __eq__(self, other):
        return (isinstance(other, Outcome) and self.result == other.result and self.count == other.count
                and self.first == other.first and self.last == other.last)


class Ways:
    """Some weavings that are not gone through one by one: their number, the least and the greatest one."""

    def __init__(self, count, first, last):
        self.count = count
        self.first = first
        self.last = last

    def joined(self, ways):
        """These and other weavings."""
        return Ways(self.count + ways.count, min(self.first, ways.first), max(self.last, ways.last))

    def followed_by(self, number):
        """The weavings with one number more at the end of each."""
        return Ways(self.count, self.first + (number,), self.last + (number,))


class Branch:
    """A walk in one state, and the ways that lead to it by their last numbers."""

    def __init__(self, going):
        self.going = going
        self.ways = {}

    def take_in(self, branch):
        """Add the ways of another branch of the same state."""
        for number in list(branch.ways):
            self.ways[number] = together(self.ways.get(number), branch.ways[number])

    def all_ways(self):
        ways = None
        for number in self.ways:
            ways = together(ways, self.ways[number])
        return ways


def together(one, other):
    """The weavings of both, of which one may be None."""
    if one is None:
        return other
    if other is None:
        return one
    return one.joined(other)


def grown(branch, views):
    """The branches to which a branch leads by its next look, one for each node that it can find."""
    found_branches = {}
    ways = None
    # A look may see any tree from that of the look before on.
    for number in range(min(list(branch.ways)), len(views)):
        ways = together(ways, branch.ways.get(number))
        found = branch.going.found(views[number])
        # A number means the same node in all trees of a row, so the same comes of it.
        if found not in found_branches:
            found_branches[found] = Branch(branch.going.taken(views[number], found))
        found_branches[found].ways[number] = ways.followed_by(number)
    return list(found_branches.values())


def gather(branches, branch):
    """Add a branch to those that are there, by the states of their walks."""
    state = branch.going.state()
    if state in branches:
        branches[state].take_in(branch)
    else:
        branches[state] = branch


def ended_branches(views, going):
    """For each result of the walk the branch with all weavings that lead to it."""
    first = Branch(going)
    first.ways[0] = Ways(1, (), ())
    layer = [first]
    ended = {}
    while layer:
        after = {}
        for branch in layer:
            if branch.going.result is not None:
                gather(ended, branch)
            else:
                for more in grown(branch, views):
                    gather(after, more)
        layer = list(after.values())
    return list(ended.values())


def outcome(branch):
    ways = branch.all_ways()
    return Outcome(branch.going.result, ways.count, ways.first, ways.last)


def led_by(tree, deeds, place, path, look, weaving):
    """The result of the walk whose looks come after as many deeds as the weaving tells."""
    views = views_of(tree, deeds, place)
    return played(views, begun(place, path, look), weaving)


def results(tree, deeds, place, path, look):
    """The outcomes of all weavings."""
    views = views_of(tree, deeds, place)
    outcomes = [outcome(branch) for branch in ended_branches(views, begun(place, path, look))]
    return sorted(outcomes, key=lambda one: one.first)


def moments(tree, deeds, place, path, look, result):
    """The numbers of deeds after which the whole walk has the result."""
    views = views_of(tree, deeds, place)
    going = begun(place, path, look)
    return [number for number, view in enumerate(views) if ended_in(view, going) == result]


def unexplained(tree, deeds, place, path, look):
    """The results that no whole walk in one of the trees has."""
    views = views_of(tree, deeds, place)
    going = begun(place, path, look)
    explained = [ended_in(view, going) for view in views]
    found = [one.result for one in results(tree, deeds, place, path, look)]
    return [result for result in found if result not in explained]


def accepts(tree, deeds, place, path, look, weaving, again):
    """Whether each look of the walk by the weaving finds the same when it is done once more."""
    views = views_of(tree, deeds, place)
    going = begun(place, path, look)
    played(views, going, weaving)
    if not is_second_weaving(again, weaving, len(views) - 1):
        raise NoWeaving()
    same = True
    for number, later in zip(weaving, again):
        same = same and going.found(views[number]) == going.found(views[later])
        going = going.looked(views[number])
    return same


def is_second_weaving(again, weaving, most):
    """Whether again tells a second look for each look of the weaving, behind all of them."""
    least = weaving[-1] if len(weaving) > 0 else 0
    return is_weaving(again, least, most) and len(again) == len(weaving)
