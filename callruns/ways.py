"""The earliest run of the fewest steps to a target, told by its rules' numbers.

A state is a pair of a place and its latest call that hasn't come back, None if there is
none. Such a call is a triple: the point where it goes on; for each value that it comes
back with the fewest steps from there to the target; and the call ahead of it.
"""

from callruns.kinds import CALL, GO

MOST_STEPS = 32
# Stands where there is no run: any number above MOST_STEPS would do.
NO_WAY = 33


class Ways:
    # The distances are those of all places to the target.
    def __init__(self, value_count, steps_at, backs, distances):
        self.value_count = value_count
        self.steps_at = steps_at
        self.backs = backs
        self.distances = distances

    # Just so many up to MOST_STEPS, some number above that otherwise.
    def fewest_from(self, place, latest):
        fewest = self.distances.get(place, NO_WAY)
        if latest is not None:
            for end, steps in self.backs.ends_of(place).items():
                fewest = min(fewest, steps + latest[1][end])
        return fewest

    def call(self, goes_on, latest):
        behind = [self.fewest_from((goes_on, value), latest) for value in range(self.value_count)]
        return (goes_on, behind, latest)

    # None if it is back, as it is at no point then.
    def state_after(self, kind, target, goes_on, latest):
        if kind == GO:
            return (target, latest)
        if kind == CALL:
            return (target, self.call(goes_on, latest))
        if latest is None:
            return None
        return ((latest[0], target[1]), latest[2])

    # The rules of a place stand in the order of their numbers, so the first that leads on
    # is the least. One is there, as from the state it is just one step more than left.
    def first_step(self, state, left):
        for number, kind, target, goes_on in self.steps_at[state[0]]:
            after = self.state_after(kind, target, goes_on, state[1])
            if after is not None and self.fewest_from(after[0], after[1]) == left:
                return (number, after)

    # Asked only where the fewest steps from the place are at most MOST_STEPS.
    def earliest_from(self, place):
        numbers = []
        state = (place, None)
        left = self.distances[place]
        while left > 0:
            left -= 1
            step = self.first_step(state, left)
            numbers.append(step[0])
            state = step[1]
        return numbers
