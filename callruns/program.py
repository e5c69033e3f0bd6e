"""The calls on one program: what each one refuses, and what it answers."""

from callruns.kinds import ANY, CALL, COME_BACK, GO
from callruns.runs import Runs
from callruns.ways import MOST_STEPS

MOST_VALUES = 4
MOST_POINTS = 32
MOST_FUNCTIONS = 8
MOST_RULES = 64
# 2 ** 62: so many steps and more are not told.
TOO_MANY_STEPS = 4611686018427387904

DONE = 0
NOT_THERE = -2
NO_RUN = -6
WRONG = -22
FULL = -28
TOO_LONG = -28
TOO_FAR = -75

# How many numbers stand behind the number of each call.
ARGUMENT_COUNTS = (2, 1, 6, 3, 4, 4, 2, 2)


# None stands for no run at all.
def told_of_steps(steps):
    if steps is None:
        return [NO_RUN]
    if steps >= TOO_MANY_STEPS:
        return [TOO_FAR]
    return [DONE, steps]


class Program:
    def __init__(self):
        self.value_count = 0
        self.point_count = 0
        self.starts = []
        self.runs = Runs(0, 0)

    def has_value(self, value):
        return value < self.value_count

    def has_point(self, point):
        return point < self.point_count

    def has_place(self, value, point):
        return self.has_value(value) and self.has_point(point)

    def has_function(self, number):
        return number < len(self.starts)

    def begin(self, value_count, point_count):
        if not 1 <= value_count <= MOST_VALUES or not 1 <= point_count <= MOST_POINTS:
            return [WRONG]
        self.value_count = value_count
        self.point_count = point_count
        self.starts = []
        self.runs = Runs(value_count, point_count)
        return [DONE]

    def function(self, point):
        if not self.has_point(point):
            return [WRONG]
        if len(self.starts) == MOST_FUNCTIONS:
            return [FULL]
        self.starts.append(point)
        return [len(self.starts) - 1]

    def leads_somewhere(self, kind, to, goes_on):
        if kind == GO:
            return self.has_point(to)
        if kind == CALL:
            return self.has_function(to) and self.has_point(goes_on)
        return kind == COME_BACK

    def is_value_or_any(self, value):
        return self.has_value(value) or value == ANY

    def rule(self, point, when, kind, set_to, to, goes_on):
        if not self.has_point(point) or not self.is_value_or_any(when) or not self.is_value_or_any(set_to):
            return [WRONG]
        if not self.leads_somewhere(kind, to, goes_on):
            return [WRONG]
        if self.runs.rule_count == MOST_RULES:
            return [FULL]
        start = self.starts[to] if kind == CALL else to
        self.runs.add_rule(point, when, kind, set_to, start, goes_on)
        return [self.runs.rule_count - 1]

    def back(self, number, value, end):
        if not self.has_function(number) or not self.has_value(value) or not self.has_value(end):
            return [NOT_THERE]
        return told_of_steps(self.runs.fewest_till_back((self.starts[number], value), end))

    def reach(self, value, point, end, goal):
        if not self.has_place(value, point) or not self.has_place(end, goal):
            return [NOT_THERE]
        return told_of_steps(self.runs.fewest_to((point, value), (goal, end)))

    def way(self, value, point, end, goal):
        if not self.has_place(value, point) or not self.has_place(end, goal):
            return [NOT_THERE]
        steps = self.runs.fewest_to((point, value), (goal, end))
        if steps is None:
            return [NO_RUN]
        if steps > MOST_STEPS:
            return [TOO_LONG]
        return [steps] + self.runs.earliest_way((point, value), (goal, end))

    def forever(self, value, point):
        if not self.has_place(value, point):
            return [NOT_THERE]
        return [1 if self.runs.can_go_on_for_ever((point, value)) else 0]

    def always(self, value, point):
        if not self.has_place(value, point):
            return [NOT_THERE]
        return [1 if self.runs.is_always_back((point, value)) else 0]


def answer(program, number, given):
    if number == 0:
        return program.begin(given[0], given[1])
    if number == 1:
        return program.function(given[0])
    if number == 2:
        return program.rule(given[0], given[1], given[2], given[3], given[4], given[5])
    if number == 3:
        return program.back(given[0], given[1], given[2])
    if number == 4:
        return program.reach(given[0], given[1], given[2], given[3])
    if number == 5:
        return program.way(given[0], given[1], given[2], given[3])
    if number == 6:
        return program.forever(given[0], given[1])
    return program.always(given[0], given[1])


def answers(calls):
    program = Program()
    told = []
    at = 0
    while at < len(calls):
        number = calls[at]
        behind = at + 1 + ARGUMENT_COUNTS[number]
        one = answer(program, number, calls[at + 1:behind])
        told.append(len(one))
        told.extend(one)
        at = behind
    return told
