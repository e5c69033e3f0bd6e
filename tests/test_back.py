"""Promise 3: back."""

import random
import unittest

from reference import (ANY, CALL, FAR_NEARER, GO, LARGEST, LIMIT, RETURN, ask, ask_last, back, begin,
                       calls_with_questions_between, doubling_text, far_text, fewest_till_back, function, random_text,
                       rule, steps_told_behind_each_rule, told_of, walk_till_back)


def every_back(text):
    every = range(text.values)
    return [(f, v, w) for f in range(len(text.starts)) for v in every for w in every]


def ask_every_back(text):
    asked = every_back(text)
    rows = ask(*text.calls(), *[back(*one) for one in asked])
    return dict(zip(asked, rows[-len(asked):]))


class NotThereTest(unittest.TestCase):
    ahead = (begin(3, 2), function(0), function(1), rule(0, ANY, RETURN, ANY))

    def test_no_such_function(self):
        for f, told in ((0, [0, 1]), (1, [-6]), (2, [-2]), (7, [-2]), (8, [-2]), (LARGEST, [-2])):
            with self.subTest(f=f):
                self.assertEqual(ask_last(*self.ahead, back(f, 2, 2)), told)

    def test_no_functions_at_all(self):
        self.assertEqual(ask_last(begin(1, 1), rule(0, ANY, RETURN, ANY), back(0, 0, 0)), [-2])

    def test_no_such_value(self):
        for number in (3, 4, 5, LARGEST):
            with self.subTest(number=number):
                self.assertEqual(ask_last(*self.ahead, back(0, number, 0)), [-2])
                self.assertEqual(ask_last(*self.ahead, back(0, 0, number)), [-2])
                self.assertEqual(ask_last(*self.ahead, back(2, number, number)), [-2])

    def test_four_is_no_value_with_4_values_either(self):
        ahead = (begin(4, 1), function(0), rule(0, ANY, RETURN, ANY))
        self.assertEqual(ask(*ahead, back(0, 3, 3), back(0, 4, 3), back(0, 3, 4))[3:], [[0, 1], [-2], [-2]])

    def test_first_named_ahead_of_no_run(self):
        self.assertEqual(ask_last(*self.ahead, back(1, 3, 0)), [-2])


class NoRunTest(unittest.TestCase):
    def test_no_rule(self):
        self.assertEqual(ask_last(begin(1, 1), function(0), back(0, 0, 0)), [-6])

    def test_no_rule_that_fits(self):
        ahead = (begin(3, 2), function(0), rule(0, 1, RETURN, ANY), rule(1, ANY, RETURN, ANY))
        self.assertEqual(ask(*ahead, back(0, 0, 0), back(0, 1, 1), back(0, 2, 2))[4:], [[-6], [0, 1], [-6]])

    def test_only_calls_itself(self):
        ahead = (begin(2, 2), function(0), rule(0, ANY, CALL, ANY, 0, 1), rule(1, ANY, RETURN, ANY))
        self.assertEqual(ask(*ahead, back(0, 0, 0), back(0, 0, 1))[4:], [[-6], [-6]])

    def test_two_that_only_call_one_another(self):
        ahead = (begin(1, 3), function(0), function(1), rule(0, ANY, CALL, ANY, 1, 2),
                 rule(1, ANY, CALL, ANY, 0, 2), rule(2, ANY, RETURN, ANY))
        self.assertEqual(ask(*ahead, back(0, 0, 0), back(1, 0, 0))[6:], [[-6], [-6]])

    def test_only_goes_round(self):
        ahead = (begin(1, 2), function(0), rule(0, ANY, GO, ANY, 1), rule(1, ANY, GO, ANY, 0))
        self.assertEqual(ask_last(*ahead, back(0, 0, 0)), [-6])

    def test_stuck_behind_a_call(self):
        ahead = (begin(1, 3), function(0), function(1), rule(0, ANY, CALL, ANY, 1, 2), rule(1, ANY, RETURN, ANY))
        self.assertEqual(ask(*ahead, back(0, 0, 0), back(1, 0, 0))[5:], [[-6], [0, 1]])

    def test_stuck_with_the_value_that_the_call_comes_back_with(self):
        ahead = (begin(2, 3), function(0), function(1), rule(0, ANY, CALL, ANY, 1, 2),
                 rule(1, ANY, RETURN, 1), rule(2, 0, RETURN, ANY))
        self.assertEqual(ask(*ahead, back(0, 0, 0), back(0, 0, 1))[6:], [[-6], [-6]])

    def test_value_that_it_never_comes_back_with(self):
        ahead = (begin(3, 1), function(0), rule(0, ANY, RETURN, 1))
        rows = ask(*ahead, back(0, 1, 0), back(0, 1, 1), back(0, 0, 1), back(0, 1, 2))
        self.assertEqual(rows[3:], [[-6], [0, 1], [0, 1], [-6]])


class FewestTest(unittest.TestCase):
    def test_the_last_step_counts(self):
        self.assertEqual(ask_last(begin(1, 1), function(0), rule(0, ANY, RETURN, ANY), back(0, 0, 0)), [0, 1])

    def test_over_points(self):
        for length in (1, 2, 31):
            with self.subTest(length=length):
                chain = [rule(point, ANY, GO, ANY, point + 1) for point in range(length)]
                ahead = [begin(1, 32), function(0)] + chain + [rule(length, ANY, RETURN, ANY)]
                self.assertEqual(ask_last(*ahead, back(0, 0, 0)), [0, length + 1])

    def test_over_values_at_one_point(self):
        ahead = (begin(4, 1), function(0), rule(0, 0, GO, 1, 0), rule(0, 1, GO, 2, 0), rule(0, 2, GO, 3, 0),
                 rule(0, 3, RETURN, 0))
        rows = ask(*ahead, *[back(0, value, 0) for value in range(4)])
        self.assertEqual(rows[6:], [[0, 4], [0, 3], [0, 2], [0, 1]])

    def test_the_value_is_set_ahead_of_a_call_and_of_coming_back(self):
        ahead = (begin(4, 3), function(0), function(1), rule(0, 0, CALL, 1, 1, 2), rule(1, 1, RETURN, 2),
                 rule(2, 2, RETURN, 3))
        self.assertEqual(ask(*ahead, back(0, 0, 3), back(1, 1, 2), back(1, 0, 2))[6:], [[0, 3], [0, 1], [-6]])

    def test_the_value_stays(self):
        ahead = (begin(4, 3), function(0), function(1), rule(0, ANY, CALL, ANY, 1, 2), rule(1, ANY, GO, ANY, 2),
                 rule(2, ANY, RETURN, ANY))
        for v in range(4):
            rows = ask(*ahead, *[back(0, v, w) for w in range(4)])
            self.assertEqual(rows[6:], [[0, 4] if w == v else [-6] for w in range(4)])

    def test_fewest_of_several(self):
        long, short = rule(0, ANY, GO, ANY, 1), rule(0, ANY, GO, ANY, 2)
        rest = (rule(1, ANY, GO, ANY, 2), rule(2, ANY, RETURN, ANY))
        self.assertEqual(ask_last(begin(1, 3), function(0), long, short, *rest, back(0, 0, 0)), [0, 2])
        self.assertEqual(ask_last(begin(1, 3), function(0), short, long, *rest, back(0, 0, 0)), [0, 2])

    def test_fewest_over_calls(self):
        # By the call: 1 and 1 and 1 steps; along the points: 4.
        ahead = (begin(1, 6), function(0), function(1), rule(0, ANY, GO, ANY, 3), rule(3, ANY, GO, ANY, 4),
                 rule(4, ANY, GO, ANY, 2), rule(2, ANY, RETURN, ANY))
        call = (rule(0, ANY, CALL, ANY, 1, 2), rule(1, ANY, RETURN, ANY))
        self.assertEqual(ask_last(*ahead, back(0, 0, 0)), [0, 4])
        self.assertEqual(ask_last(*ahead, *call, back(0, 0, 0)), [0, 3])

    def test_fewest_over_calls_of_itself(self):
        # From value 0 it must call itself with 1, 2 and 3 before it may come back.
        ahead = [begin(4, 2), function(0)]
        ahead += [rule(0, value, CALL, value + 1, 0, 1) for value in range(3)]
        ahead += [rule(0, 3, RETURN, ANY), rule(1, ANY, RETURN, ANY)]
        self.assertEqual(ask(*ahead, *[back(0, v, 3) for v in range(4)])[-4:], [[0, 7], [0, 5], [0, 3], [0, 1]])

    def test_fewest_where_a_call_comes_back_with_different_values(self):
        # With value 1 the call is back sooner, but what is behind it then takes longer.
        ahead = (begin(3, 6), function(0), function(1), rule(0, ANY, CALL, 0, 1, 2), rule(1, ANY, RETURN, 1),
                 rule(1, ANY, GO, ANY, 3), rule(3, ANY, RETURN, 2), rule(2, 2, RETURN, 0),
                 rule(2, 1, GO, ANY, 4), rule(4, ANY, GO, ANY, 5), rule(5, ANY, RETURN, 0))
        self.assertEqual(ask_last(*ahead, back(0, 0, 0)), [0, 4])
        self.assertEqual(ask(*ahead, back(1, 0, 1), back(1, 0, 2), back(1, 0, 0))[-3:], [[0, 1], [0, 2], [-6]])

    def test_both_calls_of_one_function_take_their_own_values(self):
        ahead = (begin(3, 4), function(0), function(3), rule(0, ANY, CALL, ANY, 1, 1),
                 rule(1, ANY, CALL, ANY, 1, 2), rule(2, ANY, RETURN, ANY), rule(3, 0, RETURN, 1),
                 rule(3, 1, RETURN, 2))
        self.assertEqual(ask(*ahead, back(0, 0, 2), back(0, 0, 1), back(0, 1, 2))[-3:], [[0, 5], [-6], [-6]])

    def test_goes_on_where_its_own_call_told(self):
        ahead = (begin(2, 4), function(0), function(3), rule(0, 0, CALL, ANY, 1, 1), rule(0, 1, CALL, ANY, 1, 2),
                 rule(3, ANY, RETURN, ANY), rule(1, ANY, RETURN, ANY), rule(2, ANY, GO, ANY, 1))
        self.assertEqual(ask(*ahead, back(0, 0, 0), back(0, 1, 1))[-2:], [[0, 3], [0, 4]])

    def test_call_that_goes_on_where_the_function_begins(self):
        ahead = (begin(2, 1), function(0), rule(0, 0, CALL, 1, 0, 0), rule(0, 1, RETURN, ANY))
        self.assertEqual(ask(*ahead, back(0, 0, 1), back(0, 0, 0))[-2:], [[0, 3], [-6]])

    def test_call_that_is_its_own_rest(self):
        ahead = (begin(2, 1), function(0), rule(0, 0, CALL, 0, 0, 0), rule(0, 0, RETURN, 0), rule(0, 0, RETURN, 1))
        self.assertEqual(ask(*ahead, back(0, 0, 0), back(0, 0, 1), back(0, 1, 1))[-3:], [[0, 1], [0, 1], [-6]])


class FarTest(unittest.TestCase):
    def told(self, text):
        return ask_last(*text.calls(), back(7, 3, 0))

    def steps(self, text):
        return fewest_till_back(text)[(text.starts[7], 3, 0)]

    def test_above(self):
        text = far_text()
        self.assertGreater(self.steps(text), LIMIT + 1)
        self.assertEqual(self.told(text), [-75])

    def test_just_so_many(self):
        text = far_text().with_rule(*FAR_NEARER[0])
        self.assertEqual(self.steps(text), LIMIT)
        self.assertEqual(self.told(text), [-75])

    def test_just_below(self):
        text = far_text().with_rule(*FAR_NEARER[0]).with_rule(*FAR_NEARER[1])
        self.assertEqual(self.steps(text), LIMIT - 1)
        self.assertEqual(self.told(text), [0, LIMIT - 1])

    def test_a_rule_more_each_time(self):
        asked = back(7, 3, 0)
        rows = ask(*far_text().calls(), asked, rule(*FAR_NEARER[0]), asked, rule(*FAR_NEARER[1]), asked,
                   rule(30, 3, RETURN, 0), asked, rule(26, 3, RETURN, 0), asked)
        self.assertEqual(rows[-9::2], [[-75], [-75], [0, LIMIT - 1], [0, LIMIT - 2], [0, 1]])

    def test_every_number_of_such_a_program(self):
        text = far_text().with_rule(*FAR_NEARER[0])
        fewest = fewest_till_back(text)
        for asked, told in ask_every_back(text).items():
            with self.subTest(asked=asked):
                f, v, w = asked
                self.assertEqual(told, told_of(fewest.get((text.starts[f], v, w))))

    def test_twice_over(self):
        # From the last function to the first: 1, 5, 13, 29 steps and on.
        told = ask_every_back(doubling_text())
        self.assertEqual([told[(7 - depth, 0, 0)] for depth in range(8)],
                         [[0, 2 ** (depth + 2) - 3] for depth in range(8)])

    def test_wrong_value_goes_ahead_of_too_far(self):
        self.assertEqual(ask_last(*far_text().calls(), back(7, 3, 4)), [-2])


class LaterTest(unittest.TestCase):
    def test_rules_that_come_later_count(self):
        asked = back(0, 0, 0)
        rows = ask(begin(1, 4), function(0), asked, rule(0, ANY, GO, ANY, 1), asked, rule(1, ANY, GO, ANY, 2), asked,
                   rule(2, ANY, RETURN, ANY), asked, rule(1, ANY, RETURN, ANY), asked, rule(0, ANY, RETURN, ANY),
                   asked)
        self.assertEqual(rows[2::2], [[-6], [-6], [-6], [0, 3], [0, 2], [0, 1]])

    def test_functions_and_what_they_do_later_count(self):
        asked = back(0, 0, 0)
        rows = ask(begin(1, 4), function(0), rule(1, ANY, RETURN, ANY), asked, function(2),
                   rule(0, ANY, CALL, ANY, 1, 1), asked, rule(2, ANY, GO, ANY, 3), asked,
                   rule(3, ANY, RETURN, ANY), asked, rule(2, ANY, RETURN, ANY), asked)
        told = [rows[number] for number in (3, 6, 8, 10, 12)]
        self.assertEqual(told, [[-6], [-6], [-6], [0, 4], [0, 3]])

    def test_what_is_behind_a_call_comes_last(self):
        asked = back(0, 0, 1)
        rows = ask(begin(2, 3), function(0), function(1), rule(0, ANY, CALL, ANY, 1, 2), rule(1, ANY, RETURN, 1),
                   asked, rule(2, 0, RETURN, ANY), asked, rule(2, 1, RETURN, ANY), asked)
        self.assertEqual(rows[5::2], [[-6], [-6], [0, 3]])

    def test_a_rule_more_makes_nothing_farther(self):
        source = random.Random(5)
        for _ in range(40):
            text = random_text(source, source.randint(1, 4), source.randint(1, 6), source.randint(1, 4), 16)
            told = steps_told_behind_each_rule(text, [back(*one) for one in every_back(text)])
            self.assertEqual(len(told), 16)
            for before, after in zip(told, told[1:]):
                self.assertTrue(all(new <= old for new, old in zip(after, before)))

    def test_asking_in_between_changes_nothing(self):
        source = random.Random(7)
        for _ in range(40):
            text = random_text(source, source.randint(1, 4), source.randint(1, 8), source.randint(1, 8), 24)
            asked = [back(*one) for one in every_back(text)]
            mixed = calls_with_questions_between(source, text, asked)
            self.assertEqual(ask(*mixed, *asked)[-len(asked):], ask(*text.calls(), *asked)[-len(asked):])


class AgainstSlowWaysTest(unittest.TestCase):
    def test_small_programs_walked_state_by_state(self):
        source = random.Random(11)
        most = 9
        for number in range(400):
            text = random_text(source, source.randint(1, 3), source.randint(1, 5), source.randint(1, 3),
                               source.randint(1, 8))
            told = ask_every_back(text)
            for f, start in enumerate(text.starts):
                for v in range(text.values):
                    self.check(told, walk_till_back(text, start, v, most), most, (f, v), text.values)

    def check(self, told, walked, most, start, values):
        for w in range(values):
            row = told[start + (w,)]
            if w in walked:
                self.assertEqual(row, [0, walked[w]])
            elif row != [-6]:
                self.assertEqual(row[0], 0)
                self.assertGreater(row[1], most)

    def test_large_programs_gone_over_again_and_again(self):
        source = random.Random(13)
        for number in range(60):
            text = random_text(source, 4, source.randint(4, 32), 8, 64)
            fewest = fewest_till_back(text)
            for (f, v, w), row in ask_every_back(text).items():
                self.assertEqual(row, told_of(fewest.get((text.starts[f], v, w))))


if __name__ == "__main__":
    unittest.main()
