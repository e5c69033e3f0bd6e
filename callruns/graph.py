"""How runs go from place to place, whatever calls haven't come back.

A place is a pair of a point and a value. An edge leads to the place one step on. At a
call that is where the function begins, for runs in which the call doesn't come back; for
the others one more edge leads past the call to each place where it goes on, in the
fewest steps. So any run, one without end too, is made up of such edges, but for the last
step by which it is back. A graph stands for the rules as they are when it is made.
"""

from callruns.heap import pop_least, push
from callruns.kinds import CALL, GO


class Graph:
    def __init__(self, places, steps_at, backs):
        self.places = places
        self.steps_at = steps_at
        self.edges_into = {}
        self.edge_counts = {}
        self.distances_by_target = {}
        self.ending = None
        self.coming_back = None
        for place, steps in steps_at.items():
            for number, kind, target, goes_on in steps:
                self.add_edges(place, kind, target, goes_on, backs)

    def add_edges(self, place, kind, target, goes_on, backs):
        if kind == GO or kind == CALL:
            self.add_edge(place, target, 1)
        if kind == CALL:
            for value, steps in backs.ends_of(target).items():
                self.add_edge(place, (goes_on, value), steps + 1)

    def add_edge(self, place, onward, steps):
        sources = self.edges_into.setdefault(onward, {})
        if place not in sources:
            self.edge_counts[place] = self.edge_counts.get(place, 0) + 1
            sources[place] = steps
        elif steps < sources[place]:
            sources[place] = steps

    # For each place from which a run comes to the target, the fewest steps till there.
    def distances_to(self, target):
        if target not in self.distances_by_target:
            self.distances_by_target[target] = self.find_distances_to(target)
        return self.distances_by_target[target]

    def find_distances_to(self, target):
        found = {}
        offers = [(0, target)]
        while len(offers) > 0:
            best = pop_least(offers)
            if best[1] not in found:
                found[best[1]] = best[0]
                for source, steps in self.edges_into.get(best[1], {}).items():
                    if source not in found:
                        push(offers, (best[0] + steps, source))
        return found

    # The places from which each run ends, be it back or where no rule fits.
    def ending_places(self):
        if self.ending is None:
            self.ending = self.leading_only_to([place for place in self.places if place not in self.edge_counts])
        return self.ending

    # Without edges a place that has a rule has none but such that come back.
    def places_always_back(self):
        if self.coming_back is None:
            last = [place for place in self.steps_at if place not in self.edge_counts]
            self.coming_back = self.leading_only_to(last)
        return self.coming_back

    # The last places, and those whose edges lead all to places that were found before
    # them: so none that lies on a ring is found, nor any from which a ring is come to.
    def leading_only_to(self, last):
        found = {}
        left = dict(self.edge_counts)
        ahead = list(last)
        while len(ahead) > 0:
            place = ahead.pop()
            found[place] = True
            for source in self.edges_into.get(place, {}):
                left[source] -= 1
                if left[source] == 0:
                    ahead.append(source)
        return found
