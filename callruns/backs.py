"""The fewest steps in which a run is back, kept as rules come.

A place is a pair of a point and a value. What is kept of a place speaks of a run that
begins there without calls: for each value that it can be back with, the fewest steps.
A call is gone through as one piece, by what is kept of the place where it begins, so
that it doesn't matter how deep the calls lie within one another.
"""

from callruns.heap import pop_least, push
from callruns.kinds import CALL, GO


class Backs:
    def __init__(self):
        self.known = {}
        self.goers = {}
        self.callers = {}
        self.waiters = {}
        self.offers = []

    def add_step(self, place, kind, target, goes_on):
        if kind == GO:
            self.goers.setdefault(target, []).append(place)
            self.offer_through(place, target, 1)
        elif kind == CALL:
            self.callers.setdefault(target, []).append((place, goes_on))
            self.waiters.setdefault(goes_on, []).append((place, target))
            for value, steps in self.ends_of(target).items():
                self.offer_through(place, (goes_on, value), steps + 1)
        else:
            self.offer(place, target[1], 1)

    def ends_of(self, place):
        return self.known.get(place, {})

    def offer(self, place, end, steps):
        if self.is_better(place, end, steps):
            push(self.offers, (steps, place, end))

    def offer_through(self, place, onward, steps):
        for end, rest in self.ends_of(onward).items():
            self.offer(place, end, steps + rest)

    def is_better(self, place, end, steps):
        before = self.ends_of(place).get(end)
        return before is None or steps < before

    # What follows from an offer has more steps than the offer itself. So, with the least
    # offer always taken first, none that is taken is bettered before the next rule comes;
    # and as a rule more makes nothing farther, what was known ahead of it may stay.
    def take_offers(self):
        while len(self.offers) > 0:
            best = pop_least(self.offers)
            self.take(best[1], best[2], best[0])

    def take(self, place, end, steps):
        if self.is_better(place, end, steps):
            ends = self.known.setdefault(place, {})
            ends[end] = steps
            self.tell_goers(place, end, steps)
            self.tell_callers(place, end, steps)
            self.tell_waiters(place, end, steps)

    def tell_goers(self, place, end, steps):
        for goer in self.goers.get(place, []):
            self.offer(goer, end, steps + 1)

    def tell_callers(self, place, end, steps):
        for caller, goes_on in self.callers.get(place, []):
            self.offer_through(caller, (goes_on, end), steps + 1)

    # The value at which a call goes on is known only where the call comes back, so those
    # that wait are kept by the point alone.
    def tell_waiters(self, place, end, steps):
        for caller, target in self.waiters.get(place[0], []):
            within = self.ends_of(target).get(place[1])
            if within is not None:
                self.offer(caller, end, within + steps + 1)
