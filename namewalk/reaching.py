"""Reach: all results that a walk can have while others do whatever they may.

It is found from node to node, without trying deeds: nothing that was done for
one look keeps the others from anything at a later one.
"""

from namewalk.grounds import FILE, FOLDER, LINK, NONE, Ground
from namewalk.others import check_others
from namewalk.trees import ROOT, check_place
from namewalk.walking import MOST_LINKS, Came, Refused, beginning

WHYS = ("none", "owner", "file", "link", "links")


class New:
    """The result of a walk that has come to a node that others made."""

    def __init__(self, kind):
        self.kind = kind

    def __eq__(self, other):
        return isinstance(other, New) and self.kind == other.kind


class Reacher:
    """Finds what walks with a look can come to on a ground.

    A state is a folder and how many links were followed; a set of states is a
    number with a bit for each. What happens on the way is told by notes, a
    number with a bit for each folder at which a walk stood before a look, each
    node to which it came at its end, and each word by which it was refused.
    """

    def __init__(self, ground, look):
        self.ground = ground
        self.look = look
        self.places = ground.new_folder + 1
        self.passed = {}
        self.ended = {}
        self.roamed = {}
        self.roamed_ends = {}

    def state(self, at, links):
        return 1 << (links * self.places + at)

    def members(self, states):
        """The pairs (folder, followed links) of a set of states."""
        found = []
        while states > 0:
            least = states & -states
            links, at = divmod(least.bit_length() - 1, self.places)
            found.append((at, links))
            states = states ^ least
        return found

    def stood(self, at):
        return 1 << at

    def came(self, number):
        return 1 << (self.places + number)

    def refused(self, why):
        # There are two more nodes than places to which a walk can come.
        return 1 << (2 * self.places + 2 + WHYS.index(why))

    def follows(self, goes_on):
        return self.look.follow and (goes_on or self.look.last)

    def barred(self, number, links, goes_on):
        """The word by which a look at the node is refused, or None.

        goes_on tells whether steps are left behind the look or a folder is wanted.
        """
        if number == NONE:
            return "none"
        if self.look.owners is not None and self.ground.owners[number] not in self.look.owners:
            return "owner"
        kind = self.ground.kinds[number]
        if kind == FILE and goes_on:
            return "file"
        if kind == LINK and self.follows(goes_on):
            return "links" if links == MOST_LINKS else None
        if kind == LINK and goes_on:
            return "link"
        return None

    def passes(self, at, step, links):
        """(states, notes) of a look with steps left behind it, up to the end of the links that it follows."""
        key = (at, self.ground.step_key(at, step), links)
        if key not in self.passed:
            states, notes = 0, self.stood(at)
            for number in self.ground.leads(at, step):
                more, told = self.passes_node(at, number, links)
                states, notes = states | more, notes | told
            self.passed[key] = (states, notes)
        return self.passed[key]

    def passes_node(self, at, number, links):
        why = self.barred(number, links, True)
        if why is not None:
            return 0, self.refused(why)
        if self.ground.kinds[number] == FOLDER:
            return self.state(number, links), 0
        if number == self.ground.new_link:
            return self.roams(at, links + 1)
        path = self.ground.view.paths[number]
        return self.passes_all(self.state(beginning(at, path), links + 1), path.steps)

    def passes_all(self, states, steps):
        """(states, notes) of looks at all these steps, with others left behind them."""
        notes = 0
        for step in steps:
            after = 0
            for at, links in self.members(states):
                more, told = self.passes(at, step, links)
                after, notes = after | more, notes | told
            states = after
        return states, notes

    def roams(self, at, links):
        """(states, notes) of any steps, of a new link's text, with others left behind them."""
        from_root, told = self.roams_from(self.state(ROOT, links))
        here = self.state(at, links)
        if (from_root & here) != 0:
            return from_root, told
        return self.roams_from(self.state(ROOT, links) | here)

    def roams_from(self, begun):
        """(states, notes) of any steps from any of these states."""
        if begun not in self.roamed:
            states, notes = begun, 0
            seen = 0
            while states != seen:
                fresh = self.members(states ^ seen)
                seen = states
                for at, links in fresh:
                    for step in self.ground.steps_from(at):
                        more, told = self.passes(at, step, links)
                        states, notes = states | more, notes | told
            self.roamed[begun] = (states, notes)
        return self.roamed[begun]

    def ends(self, at, step, links, wants):
        """The notes of a look at the last step, up to the walk's end; wants tells whether a folder is wanted."""
        key = (at, self.ground.step_key(at, step), links, wants)
        if key not in self.ended:
            notes = self.stood(at)
            for number in self.ground.leads(at, step):
                notes = notes | self.ends_node(at, number, links, wants)
            self.ended[key] = notes
        return self.ended[key]

    def ends_node(self, at, number, links, wants):
        why = self.barred(number, links, wants)
        if why is not None:
            return self.refused(why)
        if self.ground.kinds[number] != LINK or not self.follows(wants):
            return self.came(number)
        if number == self.ground.new_link:
            return self.ends_roaming(at, links + 1, wants)
        path = self.ground.view.paths[number]
        return self.ends_all(self.state(beginning(at, path), links + 1), path.steps, wants or path.folder)

    def ends_all(self, states, steps, wants):
        """The notes of walks that have these steps left."""
        states, notes = self.passes_all(states, steps[:-1])
        for at, links in self.members(states):
            if len(steps) > 0:
                notes = notes | self.ends(at, steps[-1], links, wants)
            else:
                notes = notes | self.came(at)
        return notes

    def ends_roaming(self, at, links, wants):
        """The notes of any steps, of a new link's text, with none left behind them."""
        states, notes = self.roams(at, links)
        key = (states, wants)
        if key not in self.roamed_ends:
            for place, many in self.members(states):
                notes = notes | self.came(place)
                for step in self.ground.steps_from(place):
                    # The text may want a folder, or not.
                    notes = notes | self.ends(place, step, many, wants) | self.ends(place, step, many, True)
            self.roamed_ends[key] = notes
        return self.roamed_ends[key]

    def results(self, notes):
        """The results that the notes tell, in the order of reach."""
        new = self.ground.new_folder
        found = [Came(number) for number in range(new) if (notes & self.came(number)) != 0]
        kinds = [(FOLDER, new), (FILE, new + 1), (LINK, self.ground.new_link)]
        found.extend([New(kind) for kind, number in kinds if (notes & self.came(number)) != 0])
        found.extend([Refused(why) for why in WHYS if (notes & self.refused(why)) != 0])
        return found


def reacher_for(tree, others, place, look):
    check_others(tree, others)
    check_place(tree, place)
    return Reacher(Ground(tree, others), look)


def noted(reacher, place, path):
    """The notes of all walks from the place along the path."""
    return reacher.ends_all(reacher.state(beginning(place, path), 0), path.steps, path.folder)


def reach(tree, others, place, path, look):
    """All results that the walk can have."""
    reacher = reacher_for(tree, others, place, look)
    return reacher.results(noted(reacher, place, path))


def touched(tree, others, place, path, look):
    """The folders of theirs at which the walk can stand before a look."""
    reacher = reacher_for(tree, others, place, look)
    notes = noted(reacher, place, path)
    theirs = [number for number in range(len(tree.nodes)) if number in others.folders]
    return [number for number in theirs if (notes & reacher.stood(number)) != 0]
