"""What the tests share: calls written out, answers taken apart, and slow ways to the same answers."""

from callruns.program import answers

ANY = 4
GO, CALL, RETURN = 0, 1, 2
LARGEST = 4294967295
LIMIT = 2 ** 62


def begin(values, points):
    return [0, values, points]


def function(point):
    return [1, point]


def rule(point, when, kind, set_to, to=0, goes_on=0):
    return [2, point, when, kind, set_to, to, goes_on]


def back(f, v, w):
    return [3, f, v, w]


def line(*calls):
    return [number for call in calls for number in call]


def take_apart(told):
    rows = []
    at = 0
    while at < len(told):
        rows.append(told[at + 1:at + 1 + told[at]])
        at += 1 + told[at]
    return rows


def ask(*calls):
    return take_apart(answers(line(*calls)))


def ask_last(*calls):
    return ask(*calls)[-1]


class Text:
    """A program as it is written down: what begin, function and rule have taken."""

    def __init__(self, values, points, starts, rules):
        self.values = values
        self.points = points
        self.starts = starts
        self.rules = rules

    def calls(self):
        rows = [begin(self.values, self.points)]
        rows += [function(point) for point in self.starts]
        return rows + [rule(*one) for one in self.rules]

    def with_rule(self, *one):
        return Text(self.values, self.points, self.starts, self.rules + [one])


def steps_from(text, state):
    """The states one step on. A state is a value, a point and the points behind calls; back has no point."""
    value, point, stack = state
    for at, when, kind, set_to, to, goes_on in text.rules:
        if at == point and when in (ANY, value):
            after = value if set_to == ANY else set_to
            if kind == GO:
                yield after, to, stack
            elif kind == CALL:
                yield after, text.starts[to], (goes_on,) + stack
            elif stack:
                yield after, stack[0], stack[1:]
            else:
                yield after, None, ()


def walk_till_back(text, point, value, most):
    """By walking every run of at most that many steps: the fewest steps for each value it is back with."""
    found = {}
    states = {(value, point, ())}
    for steps in range(most + 1):
        for state in states:
            if state[1] is None:
                found.setdefault(state[0], steps)
        states = {after for state in states if state[1] is not None for after in steps_from(text, state)}
    return found


def ways_by(text, one, value):
    """For each value that it can be back with by this rule: what must be gone through behind the rule's step."""
    point, when, kind, set_to, to, goes_on = one
    if when not in (ANY, value):
        return
    after = value if set_to == ANY else set_to
    every = range(text.values)
    for end in every:
        if kind == GO:
            yield end, [(to, after, end)]
        elif kind == RETURN and end == after:
            yield end, []
        elif kind == CALL:
            for middle in every:
                yield end, [(text.starts[to], after, middle), (goes_on, middle, end)]


def fewest_till_back(text):
    """By going over all rules again and again till nothing gets fewer: (point, value, end) to steps."""
    fewest = {}
    changed = True
    while changed:
        changed = False
        for one in text.rules:
            for value in range(text.values):
                for end, parts in ways_by(text, one, value):
                    if all(part in fewest for part in parts):
                        steps = 1 + sum(fewest[part] for part in parts)
                        key = (one[0], value, end)
                        if steps < fewest.get(key, steps + 1):
                            fewest[key] = steps
                            changed = True
    return fewest


def random_text(source, values, points, functions, rules):
    starts = [source.randrange(points) for _ in range(functions)]
    rows = []
    for _ in range(rules):
        kind = source.choice((GO, CALL, CALL, RETURN))
        to = source.randrange(functions if kind == CALL else points)
        when = source.choice((ANY, source.randrange(values)))
        set_to = source.choice((ANY, source.randrange(values)))
        rows.append((source.randrange(points), when, kind, set_to, to, source.randrange(points)))
    return Text(values, points, starts, rows)


# How each of functions 0 to 6 of far_text ends at values 0 to 3: it goes through the next function as it
# stands ("tail"), with one step fewer ("short"), with one more ("return"), or with two more ("slow").
FAR_LENGTHS = (4, 5, 4, 4, 3, 3, 3, 4)
FAR_ENDS = (
    ("short", "return", "short", "short"),
    ("short", "return", "return", "short"),
    ("return", "return", "tail", "tail"),
    ("tail", "tail", "short", "short"),
    ("return", "tail", "return", "return"),
    ("return", "return", "tail", "short"),
    ("slow", "tail", "short", "tail"),
)


def far_ending(chains, number, value, quick):
    """The rule at the last point of a function of far_text."""
    last = chains[number][-1]
    callee = chains[number + 1]
    name = FAR_ENDS[number][value]
    if name == "tail":
        return last, value, GO, ANY, callee[0], 0
    if name == "return":
        return last, value, CALL, ANY, number + 1, quick
    if name == "slow":
        return last, value, CALL, ANY, number + 1, chains[7][0]
    if number == 6:
        return last, value, CALL, value - 1, 0, callee[1]
    return last, value, CALL, ANY, number + 2, callee[1]


def far_text():
    """A program whose function 7, with value 3, is back with value 0 in more than 2^62 steps.

    Function n calls function n + 1 at each of its points, with the same value; function 7 calls function 0
    with the value one lower, so that 31 functions stand above one another, so to say. On top of all that,
    function 7 may call function 0 with value 3, and set value 0 at its end. Ahead of FAR_NEARER the steps are
    above 2^62, with its first rule just 2^62, with both just one fewer.
    """
    chains = []
    point = 0
    for length in FAR_LENGTHS:
        chains.append(list(range(point, point + length)))
        point += length
    restore, quick = point, point + 1
    rows = [(quick, ANY, RETURN, ANY, 0, 0)]
    for number in range(7):
        for at, goes_on in zip(chains[number], chains[number][1:]):
            rows.append((at, ANY, CALL, ANY, number + 1, goes_on))
        rows += [far_ending(chains, number, value, quick) for value in range(4)]
    first = chains[7][0]
    rows.append((first, 0, GO, ANY, quick, 0))
    rows += [(first, value, CALL, value - 1, 0, chains[7][1]) for value in (1, 2, 3)]
    rows.append((first, 3, CALL, ANY, 0, chains[7][1]))
    for at, goes_on in zip(chains[7][1:], chains[7][2:] + [restore]):
        rows.append((at, ANY, CALL, ANY, 0, goes_on))
    rows += [(restore, value, RETURN, value + 1, 0, 0) for value in (0, 1, 2)]
    rows.append((restore, 3, GO, 0, first, 0))
    return Text(4, 32, [chain[0] for chain in chains], rows)


FAR_NEARER = (
    (27, 3, GO, ANY, 28, 0),
    (30, 3, GO, 0, 31, 0),
)
