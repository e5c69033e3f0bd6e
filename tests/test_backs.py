"""How the fewest steps are come by: the least first, and none twice."""

import random
import unittest

from callruns.backs import CALL, Backs, pop_least, push
from reference import FAR_NEARER, far_text


class HeapTest(unittest.TestCase):
    def test_least_comes_first(self):
        source = random.Random(23)
        for count in list(range(12)) + [100, 500]:
            entries = [source.randrange(60) for _ in range(count)]
            heap = []
            for entry in entries:
                push(heap, entry)
            self.assertEqual([pop_least(heap) for _ in range(count)], sorted(entries))
            self.assertEqual(heap, [])

    def test_pushed_and_popped_in_turn(self):
        source = random.Random(29)
        heap, left = [], []
        for _ in range(2000):
            if left and source.randrange(5) < 2:
                self.assertEqual(pop_least(heap), min(left))
                left.remove(min(left))
            else:
                entry = source.randrange(1000)
                push(heap, entry)
                left.append(entry)


class Counted(Backs):
    def __init__(self, value_count):
        Backs.__init__(self, value_count)
        self.taken = []

    def tell_goers(self, place, end, steps):
        self.taken.append((place, end))
        Backs.tell_goers(self, place, end, steps)


class TakenTest(unittest.TestCase):
    def test_none_is_taken_twice_between_two_rules(self):
        text = far_text()
        backs = Counted(text.values)
        for ahead in (text.rules, FAR_NEARER[:1], FAR_NEARER[1:]):
            for point, when, kind, set_to, to, goes_on in ahead:
                start = text.starts[to] if kind == CALL else to
                backs.add_rule(point, when, kind, set_to, start, goes_on)
            backs.taken.clear()
            backs.take_offers()
            self.assertTrue(backs.taken)
            self.assertEqual(len(backs.taken), len(set(backs.taken)))


if __name__ == "__main__":
    unittest.main()
