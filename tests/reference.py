"""What the tests share: calls written out, answers taken apart, and slow ways to the same answers."""

from callruns.program import answers

ANY = 4
GO, CALL, RETURN = 0, 1, 2
LARGEST = 4294967295
LIMIT = 2 ** 62


def begin(values, points):
    return [0, values, points]


def function(point):
    return [1, point]


def rule(point, when, kind, set_to, to=0, goes_on=0):
    return [2, point, when, kind, set_to, to, goes_on]


def back(f, v, w):
    return [3, f, v, w]


def reach(v, i, w, j):
    return [4, v, i, w, j]


def way(v, i, w, j):
    return [5, v, i, w, j]


def forever(v, i):
    return [6, v, i]


def always(v, i):
    return [7, v, i]


def line(*calls):
    return [number for call in calls for number in call]


def take_apart(told):
    rows = []
    at = 0
    while at < len(told):
        rows.append(told[at + 1:at + 1 + told[at]])
        at += 1 + told[at]
    return rows


def ask(*calls):
    return take_apart(answers(line(*calls)))


def ask_last(*calls):
    return ask(*calls)[-1]


class Text:
    """A program as it is written down: what begin, function and rule have taken."""

    def __init__(self, values, points, starts, rules):
        self.values = values
        self.points = points
        self.starts = starts
        self.rules = rules

    def calls(self):
        rows = [begin(self.values, self.points)]
        rows += [function(point) for point in self.starts]
        return rows + [rule(*one) for one in self.rules]

    def with_rule(self, *one):
        return Text(self.values, self.points, self.starts, self.rules + [one])


def told_of(steps):
    """What back and reach answer where these are the fewest steps, None if there is no run."""
    if steps is None:
        return [-6]
    return [0, steps] if steps < LIMIT else [-75]


def steps_told_behind_each_rule(text, asked):
    """For each rule, what these questions tell when it has come: the steps, or LIMIT where none are told."""
    calls = text.calls()[:1 + len(text.starts)]
    built = len(calls)
    for one in text.rules:
        calls += [rule(*one)] + asked
    rows = ask(*calls)[built:]
    return [[row[1] if row[0] == 0 else LIMIT for row in rows[at + 1:at + 1 + len(asked)]]
            for at in range(0, len(rows), 1 + len(asked))]


def calls_with_questions_between(source, text, asked):
    """The calls that build the program, with one of the questions behind each rule."""
    calls = text.calls()
    mixed = calls[:1 + len(text.starts)]
    for call in calls[len(mixed):]:
        mixed += [call, source.choice(asked)]
    return mixed


def steps_from(text, state):
    """Each rule's number that fits, and the state one step on.

    A state is a value, a point and the points behind calls, the latest first; back has no point.
    """
    value, point, stack = state
    for number, (at, when, kind, set_to, to, goes_on) in enumerate(text.rules):
        if at == point and when in (ANY, value):
            after = value if set_to == ANY else set_to
            if kind == GO:
                yield number, (after, to, stack)
            elif kind == CALL:
                yield number, (after, text.starts[to], (goes_on,) + stack)
            elif stack:
                yield number, (after, stack[0], stack[1:])
            else:
                yield number, (after, None, ())


def walk_ways(text, value, point, most):
    """By walking every state within that many steps: the earliest of the fewest steps to each value and point.

    Those with which it is back are told too, with None for the point.
    """
    start = (value, point, ())
    seen = {start}
    found = {}
    level = [(start, [])]
    while level:
        after = []
        for state, numbers in level:
            found.setdefault(state[:2], numbers)
            # The states of a level stand in the order of their ways, so the first way to a state is the earliest.
            for number, onward in steps_from(text, state):
                if onward not in seen and len(numbers) < most:
                    seen.add(onward)
                    after.append((onward, numbers + [number]))
        level = after
    return found


def walk_till_back(text, point, value, most):
    """By walking every state within that many steps: the fewest steps for each value it is back with."""
    found = walk_ways(text, value, point, most)
    return {w: len(numbers) for (w, j), numbers in found.items() if j is None}


def walk_by(text, value, point, numbers):
    """The state to which the rules of these numbers lead, one behind another; fails where one doesn't fit."""
    state = (value, point, ())
    for number in numbers:
        state = dict(steps_from(text, state))[number]
    return state


def walk_all(text, value, point):
    """By walking every state: "forever" if some run goes on without end, else "stuck" if one ends and isn't back.

    Where calls that haven't come back are more than there are places, two of them have begun at one and the same
    place, and what lies between them can be done again and again.
    """
    start = (value, point, ())
    open_states, done, stuck = {start}, set(), False
    trail = [(start, steps_from(text, start))]
    while trail:
        state, onward = trail[-1]
        after = next(onward, (None, None))[1]
        if after is None:
            trail.pop()
            open_states.remove(state)
            done.add(state)
            stuck = stuck or state[1] is not None and not list(steps_from(text, state))
        elif after in open_states or len(after[2]) > text.values * text.points:
            return "forever"
        elif after not in done:
            open_states.add(after)
            trail.append((after, steps_from(text, after)))
    return "stuck" if stuck else "always back"


def ways_by(text, one, value):
    """For each value that it can be back with by this rule: what must be gone through behind the rule's step."""
    point, when, kind, set_to, to, goes_on = one
    if when not in (ANY, value):
        return
    after = value if set_to == ANY else set_to
    every = range(text.values)
    for end in every:
        if kind == GO:
            yield end, [(to, after, end)]
        elif kind == RETURN and end == after:
            yield end, []
        elif kind == CALL:
            for middle in every:
                yield end, [(text.starts[to], after, middle), (goes_on, middle, end)]


def fewest_till_back(text):
    """By going over all rules again and again till nothing gets fewer: (point, value, end) to steps."""
    fewest = {}
    changed = True
    while changed:
        changed = False
        for one in text.rules:
            for value in range(text.values):
                for end, parts in ways_by(text, one, value):
                    if all(part in fewest for part in parts):
                        steps = 1 + sum(fewest[part] for part in parts)
                        key = (one[0], value, end)
                        if steps < fewest.get(key, steps + 1):
                            fewest[key] = steps
                            changed = True
    return fewest


def edges_between(text):
    """The fewest steps from each place (point, value) to the ones that come next, at a call within it and past it."""
    fewest = fewest_till_back(text)
    edges = {}
    for point, when, kind, set_to, to, goes_on in text.rules:
        for value in range(text.values):
            if when in (ANY, value) and kind != RETURN:
                after = value if set_to == ANY else set_to
                ahead = [((to if kind == GO else text.starts[to], after), 1)]
                for end in range(text.values):
                    if kind == CALL and (text.starts[to], after, end) in fewest:
                        ahead.append(((goes_on, end), 1 + fewest[(text.starts[to], after, end)]))
                for onward, steps in ahead:
                    pair = ((point, value), onward)
                    edges[pair] = min(steps, edges.get(pair, steps))
    return edges


def every_place(text):
    return [(point, value) for point in range(text.points) for value in range(text.values)]


def fewest_between(text):
    """By going over each place between two others: pairs of places to the fewest steps, of one step at least."""
    rows = {place: {} for place in every_place(text)}
    for (place, onward), steps in edges_between(text).items():
        rows[place][onward] = steps
    for middle in every_place(text):
        for row in rows.values():
            if middle in row:
                for onward, steps in rows[middle].items():
                    row[onward] = min(row[middle] + steps, row.get(onward, row[middle] + steps))
    return rows


def ends_of_all(text):
    """For each place what walk_all tells, from the fewest steps between places."""
    rows = fewest_between(text)
    told = {}
    for place in every_place(text):
        come_to = [place] + list(rows[place])
        if any(one in rows[one] for one in come_to):
            told[place] = "forever"
        else:
            stuck = [one for one in come_to if not list(steps_from(text, (one[1], one[0], ())))]
            told[place] = "stuck" if stuck else "always back"
    return told


def random_text(source, values, points, functions, rules):
    starts = [source.randrange(points) for _ in range(functions)]
    rows = []
    for _ in range(rules):
        kind = source.choice((GO, CALL, CALL, RETURN))
        to = source.randrange(functions if kind == CALL else points)
        when = source.choice((ANY, source.randrange(values)))
        set_to = source.choice((ANY, source.randrange(values)))
        rows.append((source.randrange(points), when, kind, set_to, to, source.randrange(points)))
    return Text(values, points, starts, rows)


def winding_text(source, length):
    """A program whose ways are long, with many runs of the same number of steps.

    Points 0 to 15 lie behind one another: from each to the next lead calls, and here and there a step past them.
    Points 16 on belong to the functions, which come back in few steps, some by calling the one before them.
    """
    starts = [16, 19, 22, 25]
    rows = []
    for point in range(length):
        rows += [(point, ANY, CALL, ANY, source.randrange(4), point + 1) for _ in range(2)]
        if source.randrange(4) == 0:
            rows.append((point, source.randrange(3), GO, source.randrange(3), point + 1, 0))
    for number, start in enumerate(starts):
        rows += [(start, ANY, GO, source.choice((ANY, 0, 1)), start + 1, 0),
                 (start, ANY, GO, source.choice((ANY, 1, 2)), start + 2, 0),
                 (start + 1, ANY, RETURN, ANY, 0, 0), (start + 1, source.randrange(3), RETURN, 2, 0, 0),
                 (start + 2, ANY, CALL, ANY, max(number - 1, 0), start + 1),
                 (start + 2, source.randrange(3), GO, ANY, start + 1, 0)]
    source.shuffle(rows)
    return Text(3, 28, starts, rows[:64])


def doubling_text():
    """Each function calls the next twice, the last is back at once where the value is 0 to 2."""
    rows = [(24, value, RETURN, ANY, 0, 0) for value in range(3)]
    for number in range(7):
        first = 3 * number
        rows += [(first, ANY, CALL, ANY, number + 1, first + 1), (first + 1, ANY, CALL, ANY, number + 1, first + 2),
                 (first + 2, ANY, RETURN, ANY, 0, 0)]
    return Text(4, 32, [3 * number for number in range(7)] + [24], rows)


# How each of functions 0 to 6 of far_text ends at values 0 to 3: it goes through the next function as it
# stands ("tail"), with one step fewer ("short"), with one more ("return"), or with two more ("slow").
FAR_LENGTHS = (4, 5, 4, 4, 3, 3, 3, 4)
FAR_ENDS = (
    ("short", "return", "short", "short"),
    ("short", "return", "return", "short"),
    ("return", "return", "tail", "tail"),
    ("tail", "tail", "short", "short"),
    ("return", "tail", "return", "return"),
    ("return", "return", "tail", "short"),
    ("slow", "tail", "short", "tail"),
)


def far_ending(chains, number, value, quick):
    """The rule at the last point of a function of far_text."""
    last = chains[number][-1]
    callee = chains[number + 1]
    name = FAR_ENDS[number][value]
    if name == "tail":
        return last, value, GO, ANY, callee[0], 0
    if name == "return":
        return last, value, CALL, ANY, number + 1, quick
    if name == "slow":
        return last, value, CALL, ANY, number + 1, chains[7][0]
    if number == 6:
        return last, value, CALL, value - 1, 0, callee[1]
    return last, value, CALL, ANY, number + 2, callee[1]


def far_text():
    """A program whose function 7, with value 3, is back with value 0 in more than 2^62 steps.

    Function n calls function n + 1 at each of its points, with the same value; function 7 calls function 0
    with the value one lower, so that 31 functions stand above one another, so to say. On top of all that,
    function 7 may call function 0 with value 3, and set value 0 at its end. Ahead of FAR_NEARER the steps are
    above 2^62, with its first rule just 2^62, with both just one fewer.
    """
    chains = []
    point = 0
    for length in FAR_LENGTHS:
        chains.append(list(range(point, point + length)))
        point += length
    restore, quick = point, point + 1
    rows = [(quick, ANY, RETURN, ANY, 0, 0)]
    for number in range(7):
        for at, goes_on in zip(chains[number], chains[number][1:]):
            rows.append((at, ANY, CALL, ANY, number + 1, goes_on))
        rows += [far_ending(chains, number, value, quick) for value in range(4)]
    first = chains[7][0]
    rows.append((first, 0, GO, ANY, quick, 0))
    rows += [(first, value, CALL, value - 1, 0, chains[7][1]) for value in (1, 2, 3)]
    rows.append((first, 3, CALL, ANY, 0, chains[7][1]))
    for at, goes_on in zip(chains[7][1:], chains[7][2:] + [restore]):
        rows.append((at, ANY, CALL, ANY, 0, goes_on))
    rows += [(restore, value, RETURN, value + 1, 0, 0) for value in (0, 1, 2)]
    rows.append((restore, 3, GO, 0, first, 0))
    return Text(4, 32, [chain[0] for chain in chains], rows)


FAR_NEARER = (
    (27, 3, GO, ANY, 28, 0),
    (30, 3, GO, 0, 31, 0),
)
