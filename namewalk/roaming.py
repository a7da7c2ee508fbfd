"""Roaming: to which ends walks can come while others do whatever they may.

They are found from node to node, without trying deeds: nothing that was done
for one look keeps the others from anything at a later one.
"""

from namewalk.grounds import FILE, FOLDER, LINK, NONE
from namewalk.trees import ROOT
from namewalk.walking import MOST_LINKS, beginning

WHYS = ("none", "owner", "file", "link", "links")


def stretch(steps, wants):
    """Each step with whether a walk must go on from there: if steps are left behind it, or a folder is wanted."""
    last = len(steps) - 1
    return [(step, wants or index < last) for index, step in enumerate(steps)]


class Roamer:
    """Finds the ends of walks with a look on a ground.

    An END is a number with one bit: for each state in which a walk can be (the
    folder at which it stands, and how many links it followed), each folder at
    which it stood before a look, each file or link to which it came, and each
    word by which it was refused. Several ends are a number with their bits.
    """

    def __init__(self, ground, look):
        self.ground = ground
        self.look = look
        self.places = ground.new_folder + 1
        self.rounds = MOST_LINKS + 1 if look.follow else 1
        # All bits from this one on are no states.
        self.many_states = self.places * self.rounds
        self.all_states = (1 << self.many_states) - 1
        self.passed = {}
        self.roamed = {}
        self.roamed_last = {}

    def state(self, at, links):
        return 1 << (links * self.places + at)

    def states_in(self, ends):
        return ends & self.all_states

    def members(self, ends):
        """The pairs (folder, followed links) of the states among the ends."""
        found = []
        left = self.states_in(ends)
        while left > 0:
            least = left & -left
            links, at = divmod(least.bit_length() - 1, self.places)
            found.append((at, links))
            left = left ^ least
        return found

    def stood(self, at):
        return 1 << (self.many_states + at)

    def came(self, number, links):
        """The end of a look that has come to a node from which the walk may go on, if it is a folder."""
        if self.ground.kinds[number] == FOLDER:
            return self.state(number, links)
        return 1 << (self.many_states + self.places + number)

    def refused(self, why):
        return 1 << (self.many_states + self.places + len(self.ground.kinds) + WHYS.index(why))

    def ends_at(self, number):
        """All ends of walks that have come to a node."""
        ends = 0
        for links in range(self.rounds):
            ends = ends | self.came(number, links)
        return ends

    def follows(self, number, goes_on):
        return self.ground.kinds[number] == LINK and self.look.follow and (goes_on or self.look.last)

    def barred(self, number, links, goes_on):
        """The word by which a look at the node is refused, or None."""
        if number == NONE:
            return "none"
        if self.look.owners is not None and self.ground.owners[number] not in self.look.owners:
            return "owner"
        if self.follows(number, goes_on):
            return "links" if links == MOST_LINKS else None
        if self.ground.kinds[number] == FILE and goes_on:
            return "file"
        if self.ground.kinds[number] == LINK and goes_on:
            return "link"
        return None

    def passes(self, at, step, links, goes_on):
        """The ends of a look, up to the end of the links that it follows."""
        key = (at, self.ground.step_key(at, step), links, goes_on)
        if key not in self.passed:
            ends = self.stood(at)
            for number in self.ground.leads(at, step):
                ends = ends | self.finds(at, number, links, goes_on)
            self.passed[key] = ends
        return self.passed[key]

    def finds(self, at, number, links, goes_on):
        """The ends of a look that finds this node, or none, from the folder at which the walk stands."""
        why = self.barred(number, links, goes_on)
        if why is not None:
            return self.refused(why)
        if not self.follows(number, goes_on):
            return self.came(number, links)
        if number == self.ground.new_link:
            return self.roams(at, links + 1, goes_on)
        path = self.ground.view.paths[number]
        return self.passes_all(self.state(beginning(at, path), links + 1), stretch(path.steps, goes_on or path.folder))

    def passes_all(self, begun, pairs):
        """The ends of looks at all steps of a stretch, from any of the states with which it is begun."""
        ends, noted = begun, 0
        for step, goes_on in pairs:
            after = 0
            for at, links in self.members(ends):
                after = after | self.passes(at, step, links, goes_on)
            ends = after
            noted = noted | after
        return self.states_in(ends) | (noted ^ self.states_in(noted))

    def roams(self, at, links, goes_on):
        """The ends of all texts that a new link can have, from its folder or from the root."""
        top, here = self.state(ROOT, links), self.state(at, links)
        ends = self.roams_from(top)
        if (ends & here) == 0:
            ends = self.roams_from(top | here)
        if goes_on:
            return ends
        return ends | self.roams_to_last(self.states_in(ends))

    def roams_from(self, begun):
        """The ends of any steps from any of these states, with others left behind them."""
        if begun not in self.roamed:
            ends, seen = begun, 0
            while self.states_in(ends) != seen:
                fresh = self.members(ends ^ seen)
                seen = self.states_in(ends)
                for at, links in fresh:
                    for step in self.ground.steps_from(at):
                        ends = ends | self.passes(at, step, links, True)
            self.roamed[begun] = ends
        return self.roamed[begun]

    def roams_to_last(self, states):
        """The ends of a walk's last look from any of these states."""
        if states not in self.roamed_last:
            ends = 0
            for at, links in self.members(states):
                for step in self.ground.steps_from(at):
                    ends = ends | self.passes(at, step, links, False)
            self.roamed_last[states] = ends
        return self.roamed_last[states]
