"""Promise 5: way."""

import random
import unittest

from reference import (ANY, CALL, FAR_NEARER, GO, LARGEST, LIMIT, RETURN, Text, ask, ask_last, begin, every_place,
                       far_text, fewest_between, function, random_text, reach, rule, walk_by, walk_ways, way,
                       winding_text)


class NotThereTest(unittest.TestCase):
    ahead = (begin(3, 2), rule(0, ANY, GO, ANY, 1))

    def test_what_is_there(self):
        self.assertEqual(ask_last(*self.ahead, way(2, 0, 2, 1)), [1, 0])

    def test_no_such_value(self):
        for number in (3, 4, 5, LARGEST):
            with self.subTest(number=number):
                self.assertEqual(ask_last(*self.ahead, way(number, 0, 2, 1)), [-2])
                self.assertEqual(ask_last(*self.ahead, way(2, 0, number, 1)), [-2])

    def test_no_such_point(self):
        for number in (2, 3, 32, LARGEST):
            with self.subTest(number=number):
                self.assertEqual(ask_last(*self.ahead, way(2, number, 2, 1)), [-2])
                self.assertEqual(ask_last(*self.ahead, way(2, 0, 2, number)), [-2])

    def test_four_is_no_value_and_32_no_point_at_the_most(self):
        rows = ask(begin(4, 32), way(3, 31, 3, 31), way(4, 31, 3, 31), way(3, 32, 3, 31), way(3, 31, 4, 31),
                   way(3, 31, 3, 32))
        self.assertEqual(rows[1:], [[0], [-2], [-2], [-2], [-2]])

    def test_not_there_though_it_is_the_same(self):
        self.assertEqual(ask_last(*self.ahead, way(3, 0, 3, 0)), [-2])
        self.assertEqual(ask_last(*self.ahead, way(0, 2, 0, 2)), [-2])


class NoRunTest(unittest.TestCase):
    def test_no_rule_that_fits(self):
        ahead = (begin(2, 2), rule(0, 1, GO, ANY, 1))
        self.assertEqual(ask(*ahead, way(0, 0, 0, 1), way(1, 0, 1, 1), way(0, 0, 1, 0))[2:], [[-6], [1, 0], [-6]])

    def test_behind_a_call_that_never_comes_back(self):
        ahead = (begin(1, 4), function(2), rule(0, ANY, CALL, ANY, 0, 1), rule(2, ANY, GO, ANY, 3))
        self.assertEqual(ask(*ahead, way(0, 0, 0, 1), way(0, 0, 0, 3))[4:], [[-6], [2, 0, 1]])

    def test_back_is_at_no_point(self):
        ahead = (begin(2, 3), function(1), rule(0, ANY, RETURN, 1, 2, 2))
        self.assertEqual(ask(*ahead, *[way(0, 0, 1, j) for j in range(3)])[3:], [[-6], [-6], [-6]])


class LengthTest(unittest.TestCase):
    def test_0_alone_where_it_is(self):
        for rules in ((), (rule(0, ANY, GO, ANY, 0),), (rule(0, ANY, RETURN, 0),)):
            self.assertEqual(ask_last(begin(2, 2), *rules, way(1, 0, 1, 0)), [0])

    def test_32_and_33_steps_over_points(self):
        # Rules 0 to 30 lead from point 0 to point 31, rules 31 and 32 on with values 1 and 2.
        rules = [rule(point, ANY, GO, ANY, point + 1) for point in range(31)]
        rules += [rule(31, 0, GO, 1, 31), rule(31, 1, GO, 2, 31)]
        rows = ask(begin(3, 32), *rules, way(0, 0, 0, 30), way(0, 0, 0, 31), way(0, 0, 1, 31), way(0, 0, 2, 31),
                   way(0, 1, 2, 31))
        self.assertEqual(rows[-5:], [[30] + list(range(30)), [31] + list(range(31)), [32] + list(range(32)), [-28],
                                     [32] + list(range(1, 33))])

    def test_32_and_33_steps_over_calls_that_come_back(self):
        # Each call is two steps.
        rules = [rule(20, ANY, RETURN, ANY)] + [rule(point, ANY, CALL, ANY, 0, point + 1) for point in range(17)]
        numbers = [number for point in range(16) for number in (point + 1, 0)]
        rows = ask(begin(1, 21), function(20), *rules, way(0, 0, 0, 16), way(0, 0, 0, 17), way(0, 1, 0, 17))
        self.assertEqual(rows[-3:], [[32] + numbers, [-28], [32] + [one + 1 if one else 0 for one in numbers]])

    def test_32_and_33_steps_over_calls_within_one_another(self):
        # By rules 0 to 15 functions 0 to 7 call one another in turn, with value 0 and then with value 1.
        rules = [rule(point, value, CALL, value + (point == 7), (point + 1) % 8, 8)
                 for value in (0, 1) for point in range(8)]
        rules += [rule(0, 2, RETURN, ANY), rule(8, ANY, RETURN, ANY), rule(9, ANY, CALL, ANY, 1, 10),
                  rule(11, ANY, GO, ANY, 9)]
        ahead = [begin(3, 12)] + [function(point) for point in range(8)] + rules
        rows = ask(*ahead, way(0, 0, 2, 0), way(0, 9, 2, 10), way(0, 11, 2, 10), reach(0, 11, 2, 10))
        self.assertEqual(rows[-4:], [[16] + list(range(16)), [32, 18] + list(range(1, 16)) + [16] + [17] * 15, [-28],
                                     [0, 33]])

    def test_where_reach_tells_more_than_32(self):
        rules = [rule(point, ANY, GO, ANY, point + 1) for point in range(31)]
        rules += [rule(31, value, GO, value + 1, 0) for value in range(3)]
        rows = ask(begin(4, 32), *rules, reach(0, 0, 1, 0), way(0, 0, 1, 0), reach(0, 0, 1, 1), way(0, 0, 1, 1),
                   way(0, 0, 3, 31))
        self.assertEqual(rows[-5:], [[0, 32], [32] + list(range(32)), [0, 33], [-28], [-28]])

    def test_around_2_to_the_62nd(self):
        text = far_text()
        fewest = fewest_between(text)
        for i, j, steps in ((16, 29, LIMIT - 1), (13, 29, LIMIT), (8, 29, LIMIT + 1)):
            with self.subTest(steps=steps):
                self.assertEqual(fewest[(i, 3)][(j, 3)], steps)
                self.assertEqual(ask_last(*text.calls(), way(3, i, 3, j)), [-28])
        self.assertEqual(ask(*text.calls(), reach(3, 0, 3, 30), way(3, 0, 3, 30))[-2:], [[-75], [-28]])
        self.assertEqual(ask_last(*text.with_rule(*FAR_NEARER[0]).calls(), way(3, 16, 3, 30)), [-28])

    def test_wrong_value_goes_ahead_of_too_many(self):
        self.assertEqual(ask_last(*far_text().calls(), way(3, 0, 4, 30)), [-2])


class EarliestTest(unittest.TestCase):
    def told(self, text, *asked):
        """What way answers, looked at as a run too."""
        row = ask_last(*text.calls(), way(*asked))
        self.assertEqual(len(row), 1 + row[0])
        self.assertEqual(walk_by(text, asked[0], asked[1], row[1:])[:2], asked[2:])
        self.assertEqual(row[1:], walk_ways(text, asked[0], asked[1], row[0])[asked[2:]])
        return row[1:]

    def test_the_same_rule_twice(self):
        go = (0, ANY, GO, ANY, 1, 0)
        self.assertEqual(self.told(Text(1, 3, [], [go, go]), 0, 0, 0, 1), [0])
        self.assertEqual(self.told(Text(1, 3, [], [(2, ANY, GO, ANY, 1, 0), go, go]), 0, 0, 0, 1), [1])

    def test_the_same_rules_twice_one_behind_another(self):
        rows = [(1, ANY, GO, ANY, 2, 0), (0, ANY, GO, ANY, 1, 0)]
        self.assertEqual(self.told(Text(1, 3, [], rows + rows), 0, 0, 0, 2), [1, 0])

    def test_the_same_call_twice(self):
        call, come_back = (0, ANY, CALL, ANY, 0, 1), (2, ANY, RETURN, ANY, 0, 0)
        self.assertEqual(self.told(Text(1, 3, [2], [come_back, call, call, come_back]), 0, 0, 0, 1), [1, 0])
        other = (0, ANY, CALL, ANY, 1, 1)
        self.assertEqual(self.told(Text(1, 3, [2, 2], [other, call, come_back]), 0, 0, 0, 1), [0, 2])

    def test_of_the_fewest_steps_though_a_lesser_number_fits(self):
        rows = [(0, ANY, GO, ANY, 1, 0), (1, ANY, GO, ANY, 2, 0), (0, ANY, GO, ANY, 2, 0)]
        self.assertEqual(self.told(Text(1, 3, [], rows), 0, 0, 0, 2), [2])

    def test_the_first_number_goes_ahead_of_the_second(self):
        # By point 1: rules 1 and 3; by point 2: rules 2 and 0.
        rows = [(2, ANY, GO, ANY, 3, 0), (0, ANY, GO, ANY, 1, 0), (0, ANY, GO, ANY, 2, 0), (1, ANY, GO, ANY, 3, 0)]
        self.assertEqual(self.told(Text(1, 4, [], rows), 0, 0, 0, 3), [1, 3])

    def test_the_second_number_and_the_third(self):
        # Three ways between points 1 and 3, by 2, 4 and 5, all behind the same first rule.
        rows = [(5, ANY, GO, ANY, 3, 0), (1, ANY, GO, ANY, 2, 0), (0, ANY, GO, ANY, 1, 0), (1, ANY, GO, ANY, 5, 0),
                (2, ANY, GO, ANY, 3, 0), (2, ANY, GO, ANY, 3, 0), (1, ANY, GO, ANY, 4, 0), (4, ANY, GO, ANY, 3, 0)]
        self.assertEqual(self.told(Text(1, 6, [], rows), 0, 0, 0, 3), [2, 1, 4])

    def test_the_least_leads_through_a_call_that_comes_back(self):
        by_call = [(0, ANY, CALL, ANY, 0, 2), (3, ANY, RETURN, ANY, 0, 0)]
        by_points = [(0, ANY, GO, ANY, 1, 0), (1, ANY, GO, ANY, 2, 0)]
        self.assertEqual(self.told(Text(1, 4, [3], by_call + by_points), 0, 0, 0, 2), [0, 1])
        self.assertEqual(self.told(Text(1, 4, [3], by_points + by_call), 0, 0, 0, 2), [0, 1])
        mixed = [by_points[1], by_call[0], by_points[0], by_call[1]]
        self.assertEqual(self.told(Text(1, 4, [3], mixed), 0, 0, 0, 2), [1, 3])

    def test_the_least_leads_through_a_call_that_does_not_come_back(self):
        within = [(0, ANY, CALL, ANY, 0, 0), (3, ANY, GO, ANY, 2, 0)]
        by_points = [(0, ANY, GO, ANY, 1, 0), (1, ANY, GO, ANY, 2, 0)]
        self.assertEqual(self.told(Text(1, 4, [3], within + by_points), 0, 0, 0, 2), [0, 1])
        mixed = [by_points[1], within[1], by_points[0], within[0]]
        self.assertEqual(self.told(Text(1, 4, [3], mixed), 0, 0, 0, 2), [2, 0])

    def test_within_a_call_or_behind_it_in_as_many_steps(self):
        # Point 2 is 3 steps on within the call by point 4, and behind it by point 1.
        call = (0, ANY, CALL, ANY, 0, 1)
        within = [(3, ANY, GO, ANY, 4, 0), (4, ANY, GO, ANY, 2, 0)]
        behind = [(3, ANY, RETURN, ANY, 0, 0), (1, ANY, GO, ANY, 2, 0)]
        self.assertEqual(self.told(Text(1, 5, [3], [call] + within + behind), 0, 0, 0, 2), [0, 1, 2])
        self.assertEqual(self.told(Text(1, 5, [3], [call] + behind + within), 0, 0, 0, 2), [0, 1, 2])
        self.assertEqual(self.told(Text(1, 5, [3], [behind[1], within[0], behind[0], call, within[1]]), 0, 0, 0, 2),
                         [3, 1, 4])

    def test_the_least_within_a_call_would_come_back_with_a_wrong_value(self):
        # Rules 0 and 1 come back from the call with values 0 and 1; behind it only value 2 leads on.
        rows = [(3, ANY, RETURN, 0, 0, 0), (3, ANY, RETURN, 1, 0, 0), (0, ANY, CALL, ANY, 0, 1),
                (3, ANY, RETURN, 2, 0, 0), (1, 2, GO, 0, 2, 0)]
        self.assertEqual(self.told(Text(3, 4, [3], rows), 0, 0, 0, 2), [2, 3, 4])

    def test_the_value_that_leads_on_in_fewest_steps_behind_several_calls(self):
        # The inner call goes on at point 4, the outer one at point 1; value 1 is farther at either.
        rows = [(5, ANY, RETURN, 1, 0, 0), (5, ANY, RETURN, 2, 0, 0), (0, ANY, CALL, ANY, 0, 1),
                (3, ANY, CALL, ANY, 1, 4), (4, 1, GO, 2, 4, 0), (4, 1, RETURN, ANY, 0, 0), (4, 2, RETURN, ANY, 0, 0),
                (1, 1, GO, 2, 1, 0), (1, 2, GO, 0, 2, 0)]
        self.assertEqual(self.told(Text(3, 6, [3, 5], rows), 0, 0, 0, 2), [2, 3, 1, 6, 8])

    def test_over_calls_of_itself(self):
        rows = [(1, ANY, RETURN, ANY, 0, 0), (0, 3, RETURN, ANY, 0, 0)]
        rows += [(0, value, CALL, value + 1, 0, 1) for value in range(3)] + [(1, ANY, GO, 0, 2, 0)]
        text = Text(4, 3, [0], rows)
        self.assertEqual(self.told(text, 0, 0, 3, 1), [2, 3, 4, 1])
        self.assertEqual(self.told(text, 0, 0, 0, 2), [2, 3, 4, 1, 5])

    def test_by_rules_that_come_later(self):
        asked = way(0, 0, 0, 2)
        rows = ask(begin(1, 4), function(3), asked, rule(0, ANY, CALL, ANY, 0, 1), asked,
                   rule(1, ANY, GO, ANY, 2), asked, rule(3, ANY, RETURN, ANY), asked, rule(0, ANY, GO, ANY, 1), asked,
                   rule(3, ANY, GO, ANY, 2), asked, rule(0, ANY, GO, ANY, 2), asked)
        self.assertEqual(rows[2::2], [[-6], [-6], [-6], [3, 0, 2, 1], [2, 3, 1], [2, 0, 4], [1, 5]])

    def test_refused_takes_no_number(self):
        rows = ask(begin(1, 2), rule(0, ANY, GO, 1, 1), rule(0, ANY, GO, 0, 2), rule(1, 0, GO, 0, 0),
                   rule(0, 0, 3, 0, 1), rule(0, ANY, GO, ANY, 1), way(0, 0, 0, 1))
        self.assertEqual(rows[1:], [[-22], [-22], [0], [-22], [1], [1, 1]])

    def test_the_64th_rule(self):
        rules = [rule(0, ANY, GO, ANY, 0)] * 63 + [rule(0, ANY, GO, ANY, 1)] * 2
        self.assertEqual(ask_last(begin(1, 2), *rules, way(0, 0, 0, 1)), [1, 63])


class AgainstSlowWaysTest(unittest.TestCase):
    def check(self, text, v, i, most):
        walked = walk_ways(text, v, i, most)
        asked = [(w, j) for j in range(text.points) for w in range(text.values)]
        rows = ask(*text.calls(), *[way(v, i, *one) for one in asked], *[reach(v, i, *one) for one in asked])
        for one, told, fewest in zip(asked, rows[-2 * len(asked):], rows[-len(asked):]):
            numbers = walked.get(one)
            if numbers is not None:
                self.assertEqual(told, [len(numbers)] + numbers if len(numbers) <= 32 else [-28])
            elif fewest == [-6]:
                self.assertEqual(told, [-6])
            elif fewest == [-75] or fewest[1] > 32:
                self.assertEqual(told, [-28])
            else:
                self.assertGreater(fewest[1], most)
                self.assertEqual(told[0], fewest[1])
                self.assertEqual(walk_by(text, v, i, told[1:])[:2], one)

    def test_small_programs(self):
        source = random.Random(47)
        for _ in range(300):
            text = random_text(source, source.randint(1, 4), source.randint(1, 6), source.randint(1, 4),
                               source.randint(1, 14))
            for i, v in every_place(text):
                self.check(text, v, i, 6)

    def test_large_programs(self):
        source = random.Random(53)
        for points in (8, 16, 24, 32):
            for _ in range(3):
                text = random_text(source, 4, points, 8, 64)
                for i, v in source.sample(every_place(text), 8):
                    self.check(text, v, i, 5)

    def test_long_ways(self):
        source = random.Random(59)
        for _ in range(12):
            text = winding_text(source, 12)
            for v in range(text.values):
                self.check(text, v, 0, 34)
                self.check(text, v, source.randrange(12), 34)


if __name__ == "__main__":
    unittest.main()
