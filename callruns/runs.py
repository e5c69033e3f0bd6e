"""What is told of a program's runs, from the rules that have come so far.

A place is a pair of a point and a value, and stands for the state there without calls.
"""

from callruns.backs import Backs
from callruns.graph import Graph
from callruns.kinds import ANY
from callruns.ways import Ways


class Runs:
    def __init__(self, value_count, point_count):
        self.value_count = value_count
        self.places = [divmod(number, value_count) for number in range(value_count * point_count)]
        self.rule_count = 0
        self.steps_at = {}
        self.backs = Backs()
        self.graph = None

    # Of kind 1 start is the point where the called function begins, of kind 0 the point to.
    def add_rule(self, point, when, kind, set_to, start, goes_on):
        for value in range(self.value_count):
            if when == ANY or when == value:
                after = value if set_to == ANY else set_to
                self.add_step((point, value), kind, (start, after), goes_on)
        self.rule_count += 1
        self.graph = None

    def add_step(self, place, kind, target, goes_on):
        self.steps_at.setdefault(place, []).append((self.rule_count, kind, target, goes_on))
        self.backs.add_step(place, kind, target, goes_on)

    def graph_of_now(self):
        if self.graph is None:
            self.backs.take_offers()
            self.graph = Graph(self.places, self.steps_at, self.backs)
        return self.graph

    # None if no run is back with that value.
    def fewest_till_back(self, place, end):
        self.backs.take_offers()
        return self.backs.ends_of(place).get(end)

    # None if no run comes there.
    def fewest_to(self, place, target):
        return self.graph_of_now().distances_to(target).get(place)

    def earliest_way(self, place, target):
        distances = self.graph_of_now().distances_to(target)
        return Ways(self.value_count, self.steps_at, self.backs, distances).earliest_from(place)

    def can_go_on_for_ever(self, place):
        return place not in self.graph_of_now().ending_places()

    def is_always_back(self, place):
        return place in self.graph_of_now().places_always_back()
