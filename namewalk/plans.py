"""Plans: which node each look of a walk has to find, so that the walk comes to an end.

A plan is a list of pairs, one for each look: a node's number on the ground, or
NONE, and the path of the link that is followed then, or None.
"""

from namewalk.grounds import ANY_NAME
from namewalk.kinds import unused_name
from namewalk.paths import Path
from namewalk.roaming import stretch
from namewalk.trees import ROOT
from namewalk.walking import beginning


class Planner:
    """Finds the plans of walks whose ends a roamer knows."""

    def __init__(self, roamer):
        self.roamer = roamer
        self.ground = roamer.ground

    def along(self, begun, pairs, end):
        """The plan of the looks at the steps of a stretch, from one of the states with which it is begun."""
        layers = self.layers_along(begun, pairs)
        index = self.last_layer(layers, end)
        plan = []
        while index > 0:
            index -= 1
            step, goes_on = pairs[index]
            at, links = self.last_state(layers[index], step, goes_on, end)
            plan = self.passing(at, step, links, goes_on, end) + plan
            end = self.roamer.state(at, links)
        return plan

    def layers_along(self, begun, pairs):
        """The ends before the first look, and behind each step of the stretch."""
        layers = [begun]
        for pair in pairs:
            layers.append(self.roamer.passes_all(self.roamer.states_in(layers[-1]), [pair]))
        return layers

    def last_layer(self, layers, end):
        """The number of steps behind which the end is."""
        if self.roamer.states_in(end) == end:
            return len(layers) - 1
        # A walk that comes to such an end does not go on.
        return [index for index, ends in enumerate(layers) if (ends & end) != 0][0]

    def last_state(self, states, step, goes_on, end):
        """The first of the states from which the step leads to the end."""
        leading = [(at, links) for at, links in self.roamer.members(states)
                   if (self.roamer.passes(at, step, links, goes_on) & end) != 0]
        return leading[0]

    def passing(self, at, step, links, goes_on, end):
        """The plan of a look, and of those for the links that it follows."""
        number = [one for one in self.ground.leads(at, step)
                  if (self.roamer.finds(at, one, links, goes_on) & end) != 0][0]
        if self.roamer.barred(number, links, goes_on) is not None or not self.roamer.follows(number, goes_on):
            return [(number, None)]
        if number == self.ground.new_link:
            path = self.new_path(at, links + 1, goes_on, end)
        else:
            path = self.ground.view.paths[number]
        begun = self.roamer.state(beginning(at, path), links + 1)
        return [(number, path)] + self.along(begun, stretch(path.steps, goes_on or path.folder), end)

    def new_path(self, at, links, goes_on, end):
        """A shortest path that a new link can have, so that it leads from its folder to the end."""
        paths = {(at, links): Path((), False, True), (ROOT, links): Path((), True, True)}
        waiting = list(paths)
        known = self.roamer.state(at, links) | self.roamer.state(ROOT, links)
        if (known & end) != 0:
            return [paths[one] for one in waiting if self.roamer.state(one[0], one[1]) == end][0]
        while waiting:
            place, many = waiting.pop(0)
            for step in self.ground.steps_from(place):
                path = self.longer(paths[(place, many)], place, step)
                ends = self.roamer.passes(place, step, many, True)
                if (ends & end) != 0:
                    return path
                if not goes_on and (self.roamer.passes(place, step, many, False) & end) != 0:
                    return Path(path.steps, path.absolute, False)
                fresh = self.roamer.members(ends & (known ^ self.roamer.all_states))
                for state in fresh:
                    paths[state] = path
                    waiting.append(state)
                    known = known | self.roamer.state(state[0], state[1])
        return None

    def longer(self, path, place, step):
        """The path with a step more, which wants a folder; for any name one that the folder does not have."""
        if step == ANY_NAME:
            # At new folders, which the tree does not have, every name will do.
            taken = self.ground.view.names[place] if place < self.ground.new_folder else {}
            step = unused_name(taken)
        return Path(path.steps + (step,), path.absolute, True)
