"""The calls on one program: begin, function, rule and back."""

from callruns.backs import ANY, CALL, GO, Backs

MOST_VALUES = 4
MOST_POINTS = 32
MOST_FUNCTIONS = 8
MOST_RULES = 64
LAST_KIND = 2
# 2 ** 62: so many steps and more are not told.
TOO_MANY_STEPS = 4611686018427387904

DONE = 0
NOT_THERE = -2
NO_RUN = -6
WRONG = -22
FULL = -28
TOO_FAR = -75

# How many numbers stand behind the number of each call.
ARGUMENT_COUNTS = (2, 1, 6, 3)


class Program:
    def __init__(self):
        self.value_count = 0
        self.point_count = 0
        self.starts = []
        self.rule_count = 0
        self.backs = Backs(0)

    def has_value(self, value):
        return value < self.value_count

    def has_point(self, point):
        return point < self.point_count

    def has_function(self, number):
        return number < len(self.starts)

    def begin(self, value_count, point_count):
        if not 1 <= value_count <= MOST_VALUES or not 1 <= point_count <= MOST_POINTS:
            return [WRONG]
        self.value_count = value_count
        self.point_count = point_count
        self.starts = []
        self.rule_count = 0
        self.backs = Backs(value_count)
        return [DONE]

    def function(self, point):
        if not self.has_point(point):
            return [WRONG]
        if len(self.starts) == MOST_FUNCTIONS:
            return [FULL]
        self.starts.append(point)
        return [len(self.starts) - 1]

    def leads_somewhere(self, kind, to, goes_on):
        if kind == GO:
            return self.has_point(to)
        if kind == CALL:
            return self.has_function(to) and self.has_point(goes_on)
        return kind <= LAST_KIND

    def is_value_or_any(self, value):
        return self.has_value(value) or value == ANY

    def rule(self, point, when, kind, set_to, to, goes_on):
        if not self.has_point(point) or not self.is_value_or_any(when) or not self.is_value_or_any(set_to):
            return [WRONG]
        if not self.leads_somewhere(kind, to, goes_on):
            return [WRONG]
        if self.rule_count == MOST_RULES:
            return [FULL]
        start = self.starts[to] if kind == CALL else to
        self.backs.add_rule(point, when, kind, set_to, start, goes_on)
        self.rule_count += 1
        return [self.rule_count - 1]

    def back(self, number, value, end):
        if not self.has_function(number) or not self.has_value(value) or not self.has_value(end):
            return [NOT_THERE]
        steps = self.backs.fewest_steps(self.starts[number], value, end)
        if steps is None:
            return [NO_RUN]
        if steps >= TOO_MANY_STEPS:
            return [TOO_FAR]
        return [DONE, steps]


def answer(program, number, given):
    if number == 0:
        return program.begin(given[0], given[1])
    if number == 1:
        return program.function(given[0])
    if number == 2:
        return program.rule(given[0], given[1], given[2], given[3], given[4], given[5])
    return program.back(given[0], given[1], given[2])


def answers(calls):
    program = Program()
    told = []
    at = 0
    while at < len(calls):
        number = calls[at]
        behind = at + 1 + ARGUMENT_COUNTS[number]
        one = answer(program, number, calls[at + 1:behind])
        told.append(len(one))
        told.extend(one)
        at = behind
    return told
