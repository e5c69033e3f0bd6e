"""How the fewest steps are come by: the least first, and none twice."""

import unittest

from callruns.backs import Backs
from callruns.kinds import CALL
from callruns.runs import Runs
from reference import FAR_NEARER, far_text


class Counted(Backs):
    def __init__(self):
        Backs.__init__(self)
        self.taken = []

    def tell_goers(self, place, end, steps):
        self.taken.append((place, end))
        Backs.tell_goers(self, place, end, steps)


class TakenTest(unittest.TestCase):
    def test_none_is_taken_twice_between_two_rules(self):
        text = far_text()
        runs = Runs(text.values, text.points)
        runs.backs = backs = Counted()
        for ahead in (text.rules, FAR_NEARER[:1], FAR_NEARER[1:]):
            for point, when, kind, set_to, to, goes_on in ahead:
                start = text.starts[to] if kind == CALL else to
                runs.add_rule(point, when, kind, set_to, start, goes_on)
            backs.taken.clear()
            backs.take_offers()
            self.assertTrue(backs.taken)
            self.assertEqual(len(backs.taken), len(set(backs.taken)))


if __name__ == "__main__":
    unittest.main()
