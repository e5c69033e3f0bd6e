"""Promise 4: reach."""

import random
import unittest

from reference import (ANY, CALL, FAR_NEARER, GO, LARGEST, LIMIT, RETURN, ask, ask_last, begin,
                       calls_with_questions_between, every_place, far_text, fewest_between, function, random_text,
                       reach, rule, steps_told_behind_each_rule, told_of, walk_ways)


def every_reach(text):
    places = every_place(text)
    return [(v, i, w, j) for i, v in places for j, w in places]


def ask_every_reach(text):
    asked = every_reach(text)
    rows = ask(*text.calls(), *[reach(*one) for one in asked])
    return dict(zip(asked, rows[-len(asked):]))


class NotThereTest(unittest.TestCase):
    ahead = (begin(3, 2), rule(0, ANY, GO, ANY, 1))

    def test_what_is_there(self):
        self.assertEqual(ask_last(*self.ahead, reach(2, 0, 2, 1)), [0, 1])

    def test_no_such_value(self):
        for number in (3, 4, 5, LARGEST):
            with self.subTest(number=number):
                self.assertEqual(ask_last(*self.ahead, reach(number, 0, 2, 1)), [-2])
                self.assertEqual(ask_last(*self.ahead, reach(2, 0, number, 1)), [-2])

    def test_no_such_point(self):
        for number in (2, 3, 32, LARGEST):
            with self.subTest(number=number):
                self.assertEqual(ask_last(*self.ahead, reach(2, number, 2, 1)), [-2])
                self.assertEqual(ask_last(*self.ahead, reach(2, 0, 2, number)), [-2])

    def test_four_is_no_value_and_32_no_point_at_the_most(self):
        rows = ask(begin(4, 32), reach(3, 31, 3, 31), reach(4, 31, 3, 31), reach(3, 32, 3, 31), reach(3, 31, 4, 31),
                   reach(3, 31, 3, 32))
        self.assertEqual(rows[1:], [[0, 0], [-2], [-2], [-2], [-2]])

    def test_not_there_though_it_is_the_same(self):
        self.assertEqual(ask_last(*self.ahead, reach(3, 0, 3, 0)), [-2])
        self.assertEqual(ask_last(*self.ahead, reach(0, 2, 0, 2)), [-2])

    def test_no_functions_are_needed(self):
        self.assertEqual(ask_last(begin(1, 1), reach(0, 0, 0, 0)), [0, 0])


class NoRunTest(unittest.TestCase):
    def test_no_rule(self):
        rows = ask(begin(2, 2), reach(0, 0, 0, 1), reach(0, 0, 1, 0), reach(0, 0, 1, 1))
        self.assertEqual(rows[1:], [[-6], [-6], [-6]])

    def test_no_rule_that_fits(self):
        ahead = (begin(2, 2), rule(0, 1, GO, ANY, 1))
        self.assertEqual(ask(*ahead, reach(0, 0, 0, 1), reach(1, 0, 1, 1), reach(0, 0, 1, 1))[2:], [[-6], [0, 1], [-6]])

    def test_not_against_the_rules(self):
        ahead = (begin(1, 2), rule(0, ANY, GO, ANY, 1))
        self.assertEqual(ask_last(*ahead, reach(0, 1, 0, 0)), [-6])

    def test_behind_a_call_that_never_comes_back(self):
        ahead = (begin(1, 4), function(2), rule(0, ANY, CALL, ANY, 0, 1), rule(2, ANY, GO, ANY, 3))
        self.assertEqual(ask(*ahead, reach(0, 0, 0, 1), reach(0, 0, 0, 3))[4:], [[-6], [0, 2]])

    def test_with_a_value_that_the_call_does_not_come_back_with(self):
        ahead = (begin(3, 3), function(2), rule(0, ANY, CALL, ANY, 0, 1), rule(2, ANY, RETURN, 1))
        rows = ask(*ahead, *[reach(0, 0, w, 1) for w in range(3)])
        self.assertEqual(rows[4:], [[-6], [0, 2], [-6]])

    def test_back_is_at_no_point(self):
        # It is back with value 1, at none of the points that the rule of kind 2 names.
        ahead = (begin(2, 3), function(1), rule(0, ANY, RETURN, 1, 2, 2))
        rows = ask(*ahead, *[reach(0, 0, 1, j) for j in range(3)])
        self.assertEqual(rows[3:], [[-6], [-6], [-6]])

    def test_comes_back_only_as_often_as_was_called(self):
        # Function 0 comes back twice, so to say: with one call the second time is the end.
        ahead = (begin(1, 4), function(2), rule(0, ANY, CALL, ANY, 0, 1), rule(1, ANY, RETURN, ANY),
                 rule(2, ANY, RETURN, ANY), rule(3, ANY, CALL, ANY, 0, 2))
        self.assertEqual(ask(*ahead, reach(0, 0, 0, 3), reach(0, 1, 0, 0), reach(0, 2, 0, 1))[6:], [[-6], [-6], [-6]])

    def test_goes_on_where_its_own_call_told(self):
        # Points 0 and 1 call the same function, and go on at 2 and 3.
        ahead = (begin(1, 5), function(4), rule(0, ANY, CALL, ANY, 0, 2), rule(1, ANY, CALL, ANY, 0, 3),
                 rule(4, ANY, RETURN, ANY))
        rows = ask(*ahead, reach(0, 0, 0, 2), reach(0, 0, 0, 3), reach(0, 1, 0, 2), reach(0, 1, 0, 3))
        self.assertEqual(rows[5:], [[0, 2], [-6], [-6], [0, 2]])


class FewestTest(unittest.TestCase):
    def test_0_where_it_is(self):
        for rules in ((), (rule(0, ANY, GO, ANY, 0),), (rule(0, ANY, RETURN, 0),)):
            self.assertEqual(ask_last(begin(2, 2), *rules, reach(1, 0, 1, 0)), [0, 0])

    def test_over_points(self):
        chain = [rule(point, ANY, GO, ANY, point + 1) for point in range(31)]
        rows = ask(begin(1, 32), *chain, *[reach(0, 0, 0, j) for j in range(32)])
        self.assertEqual(rows[32:], [[0, j] for j in range(32)])

    def test_over_values_at_one_point(self):
        ring = [rule(0, value, GO, (value + 1) % 4, 0) for value in range(4)]
        rows = ask(begin(4, 1), *ring, *[reach(1, 0, w, 0) for w in range(4)])
        self.assertEqual(rows[5:], [[0, 3], [0, 0], [0, 1], [0, 2]])

    def test_more_than_32_steps_are_told(self):
        rows = [rule(point, ANY, GO, ANY, point + 1) for point in range(31)]
        rows += [rule(31, value, GO, value + 1, 0) for value in range(3)]
        self.assertEqual(ask_last(begin(4, 32), *rows, reach(0, 0, 3, 31)), [0, 127])

    def test_fewest_of_several(self):
        long, short = rule(0, ANY, GO, ANY, 1), rule(0, ANY, GO, ANY, 2)
        rest = rule(1, ANY, GO, ANY, 2)
        self.assertEqual(ask_last(begin(1, 3), long, rest, reach(0, 0, 0, 2)), [0, 2])
        self.assertEqual(ask_last(begin(1, 3), long, rest, short, reach(0, 0, 0, 2)), [0, 1])
        self.assertEqual(ask_last(begin(1, 3), short, long, rest, reach(0, 0, 0, 2)), [0, 1])

    def test_within_calls_that_never_come_back(self):
        # Points 0 to 6 each call the next one's function; none has a rule that comes back.
        ahead = [begin(1, 8)] + [function(point) for point in range(8)]
        ahead += [rule(point, ANY, CALL, ANY, point + 1, 0) for point in range(7)]
        self.assertEqual(ask_last(*ahead, reach(0, 0, 0, 7)), [0, 7])

    def test_within_a_call_that_could_come_back(self):
        ahead = (begin(2, 4), function(2), rule(0, ANY, CALL, 1, 0, 1), rule(2, ANY, GO, ANY, 3),
                 rule(3, ANY, RETURN, ANY))
        rows = ask(*ahead, reach(0, 0, 1, 2), reach(0, 0, 1, 3), reach(0, 0, 1, 1), reach(0, 0, 0, 3))
        self.assertEqual(rows[5:], [[0, 1], [0, 2], [0, 3], [-6]])

    def test_behind_calls_that_have_come_back(self):
        ahead = (begin(4, 5), function(4), rule(0, ANY, CALL, ANY, 0, 1), rule(1, ANY, CALL, ANY, 0, 2),
                 rule(2, ANY, CALL, ANY, 0, 3), rule(4, 0, RETURN, 1), rule(4, 1, RETURN, 2), rule(4, 2, RETURN, 3))
        rows = ask(*ahead, reach(0, 0, 1, 1), reach(0, 0, 2, 2), reach(0, 0, 3, 3), reach(0, 0, 2, 4),
                   reach(0, 0, 3, 4), reach(0, 0, 0, 3))
        self.assertEqual(rows[8:], [[0, 2], [0, 4], [0, 6], [0, 5], [-6], [-6]])

    def test_over_calls_of_itself(self):
        # Point 1 is come to with value 3 alone: only the innermost call comes back by itself.
        ahead = [begin(4, 3), function(0)]
        ahead += [rule(0, value, CALL, value + 1, 0, 1) for value in range(3)]
        ahead += [rule(0, 3, RETURN, ANY), rule(1, ANY, GO, ANY, 2), rule(2, ANY, RETURN, ANY)]
        rows = ask(*ahead, reach(0, 0, 3, 0), reach(0, 0, 3, 1), reach(0, 0, 3, 2), reach(2, 0, 3, 2),
                   reach(0, 0, 0, 1))
        self.assertEqual(rows[-5:], [[0, 3], [0, 4], [0, 5], [0, 3], [-6]])

    def test_through_the_call_or_round_it(self):
        through = (rule(0, ANY, CALL, ANY, 0, 1), rule(5, ANY, RETURN, ANY))
        for length, told in ((1, 1), (2, 2), (3, 2), (4, 2)):
            stops = [0] + [2, 3, 4][:length - 1] + [1]
            round_it = [rule(at, ANY, GO, ANY, to) for at, to in zip(stops, stops[1:])]
            with self.subTest(length=length):
                self.assertEqual(ask_last(begin(1, 6), function(5), *round_it, reach(0, 0, 0, 1)), [0, length])
                self.assertEqual(ask_last(begin(1, 6), function(5), *through, *round_it, reach(0, 0, 0, 1)), [0, told])

    def test_within_the_call_or_behind_it(self):
        # Point 3 is 4 steps on within the call, and behind it as many as the call has, and one more.
        ahead = (begin(1, 7), function(4), rule(0, ANY, CALL, ANY, 0, 1), rule(4, ANY, GO, ANY, 5),
                 rule(5, ANY, GO, ANY, 6), rule(6, ANY, GO, ANY, 3), rule(1, ANY, GO, ANY, 3))
        self.assertEqual(ask_last(*ahead, reach(0, 0, 0, 3)), [0, 4])
        self.assertEqual(ask_last(*ahead, rule(5, ANY, RETURN, ANY), reach(0, 0, 0, 3)), [0, 4])
        self.assertEqual(ask_last(*ahead, rule(4, ANY, RETURN, ANY), reach(0, 0, 0, 3)), [0, 3])

    def test_a_call_that_comes_back_with_different_values(self):
        # With value 1 the call is back sooner, but from there point 5 is farther.
        ahead = (begin(3, 6), function(2), rule(0, ANY, CALL, 0, 0, 1), rule(2, ANY, RETURN, 1),
                 rule(2, ANY, GO, ANY, 3), rule(3, ANY, RETURN, 2), rule(1, 2, GO, 0, 5), rule(1, 1, GO, ANY, 4),
                 rule(4, ANY, GO, 2, 4), rule(4, 2, GO, 0, 5))
        self.assertEqual(ask(*ahead, reach(0, 0, 1, 1), reach(0, 0, 2, 1), reach(0, 0, 0, 5))[-3:],
                         [[0, 2], [0, 3], [0, 4]])

    def test_without_calls_and_whatever_calls_have_not_come_back(self):
        # What is asked begins without calls, at a point where others come within calls too.
        ahead = (begin(1, 3), function(1), rule(0, ANY, CALL, ANY, 0, 2), rule(1, ANY, RETURN, ANY))
        self.assertEqual(ask(*ahead, reach(0, 1, 0, 2), reach(0, 0, 0, 2))[4:], [[-6], [0, 2]])


class FarTest(unittest.TestCase):
    def test_just_below_just_so_many_and_above(self):
        text = far_text()
        fewest = fewest_between(text)
        for i, steps, told in ((20, LIMIT - 2, [0, LIMIT - 2]), (16, LIMIT - 1, [0, LIMIT - 1]), (13, LIMIT, [-75]),
                               (8, LIMIT + 1, [-75])):
            with self.subTest(steps=steps):
                self.assertEqual(fewest[(i, 3)][(29, 3)], steps)
                self.assertEqual(ask_last(*text.calls(), reach(3, i, 3, 29)), told)

    def test_far_above(self):
        text = far_text()
        self.assertGreater(fewest_between(text)[(0, 3)][(30, 3)], LIMIT + LIMIT // 4)
        self.assertEqual(ask_last(*text.calls(), reach(3, 0, 3, 30)), [-75])

    def test_wrong_value_goes_ahead_of_too_far(self):
        self.assertEqual(ask_last(*far_text().calls(), reach(3, 0, 4, 30)), [-2])

    def test_a_rule_more_each_time(self):
        text = far_text()
        calls = text.calls() + [reach(3, 16, 3, 30)]
        steps = [fewest_between(text)[(16, 3)][(30, 3)]]
        for one in (FAR_NEARER[0], (20, 3, GO, ANY, 26, 0), (16, 3, GO, ANY, 30, 0)):
            text = text.with_rule(*one)
            calls += [rule(*one), reach(3, 16, 3, 30)]
            steps.append(fewest_between(text)[(16, 3)][(30, 3)])
        self.assertTrue(steps[0] > LIMIT == steps[1] > steps[2] > LIMIT // 10)
        self.assertEqual(ask(*calls)[-7::2], [[-75], [-75], [0, steps[2]], [0, 1]])

    def test_every_number_of_such_a_program(self):
        text = far_text().with_rule(*FAR_NEARER[0])
        fewest = fewest_between(text)
        for (v, i, w, j), told in ask_every_reach_in_parts(text):
            steps = 0 if (i, v) == (j, w) else fewest[(i, v)].get((j, w))
            self.assertEqual(told, told_of(steps))


def ask_every_reach_in_parts(text):
    """As a list of calls holds 2000 at most."""
    asked = every_reach(text)
    ahead = text.calls()
    for at in range(0, len(asked), 1900):
        part = asked[at:at + 1900]
        yield from zip(part, ask(*ahead, *[reach(*one) for one in part])[len(ahead):])


class LaterTest(unittest.TestCase):
    def test_rules_that_come_later_count(self):
        asked = reach(0, 0, 0, 3)
        rows = ask(begin(1, 4), asked, rule(0, ANY, GO, ANY, 1), asked, rule(2, ANY, GO, ANY, 3), asked,
                   rule(1, ANY, GO, ANY, 2), asked, rule(1, ANY, GO, ANY, 3), asked, rule(0, ANY, GO, ANY, 3), asked)
        self.assertEqual(rows[1::2], [[-6], [-6], [-6], [0, 3], [0, 2], [0, 1]])

    def test_functions_and_what_they_do_later_count(self):
        within, behind = reach(0, 0, 0, 3), reach(0, 0, 0, 1)
        rows = ask(begin(1, 4), within, behind, function(2), rule(0, ANY, CALL, ANY, 0, 1), within, behind,
                   rule(2, ANY, GO, ANY, 3), within, behind, rule(3, ANY, RETURN, ANY), within, behind,
                   rule(2, ANY, RETURN, ANY), within, behind)
        self.assertEqual([rows[at] for at in (1, 5, 8, 11, 14)], [[-6], [-6], [0, 2], [0, 2], [0, 2]])
        self.assertEqual([rows[at] for at in (2, 6, 9, 12, 15)], [[-6], [-6], [-6], [0, 3], [0, 2]])

    def test_a_call_that_gets_nearer_later(self):
        # The rule that comes last is neither at the point asked nor at the function's beginning.
        asked = reach(0, 0, 0, 1)
        ahead = (begin(1, 6), function(2), rule(0, ANY, CALL, ANY, 0, 1), rule(2, ANY, GO, ANY, 3),
                 rule(3, ANY, GO, ANY, 4), rule(4, ANY, RETURN, ANY))
        self.assertEqual(ask(*ahead, asked, rule(3, ANY, RETURN, ANY), asked)[6::2], [[0, 4], [0, 3]])

    def test_refused_rules_change_nothing(self):
        asked = reach(0, 0, 0, 1)
        rows = ask(begin(1, 2), rule(0, ANY, GO, 1, 1), asked, rule(0, ANY, GO, 0, 2), asked,
                   rule(0, ANY, CALL, 0, 0, 1), asked, reach(0, 0, 0, 2), asked)
        self.assertEqual(rows[1:], [[-22], [-6], [-22], [-6], [-22], [-6], [-2], [-6]])

    def test_a_rule_more_makes_nothing_farther(self):
        source = random.Random(31)
        for _ in range(30):
            text = random_text(source, source.randint(1, 3), source.randint(2, 5), source.randint(1, 3), 14)
            asked = [reach(*one) for one in every_reach(text) if source.randrange(3) == 0]
            told = steps_told_behind_each_rule(text, asked)
            self.assertEqual(len(told), 14)
            for before, after in zip(told, told[1:]):
                self.assertTrue(all(new <= old for new, old in zip(after, before)))

    def test_asking_in_between_changes_nothing(self):
        source = random.Random(37)
        for _ in range(30):
            text = random_text(source, source.randint(1, 4), source.randint(1, 8), source.randint(1, 8), 24)
            asked = [reach(*source.choice(every_reach(text))) for _ in range(60)]
            mixed = calls_with_questions_between(source, text, asked)
            self.assertEqual(ask(*mixed, *asked)[-60:], ask(*text.calls(), *asked)[-60:])


class AgainstSlowWaysTest(unittest.TestCase):
    def test_small_programs_walked_state_by_state(self):
        source = random.Random(41)
        most = 8
        for _ in range(300):
            text = random_text(source, source.randint(1, 3), source.randint(1, 5), source.randint(1, 3),
                               source.randint(1, 9))
            walked = {(v, i): walk_ways(text, v, i, most) for i, v in every_place(text)}
            for (v, i, w, j), row in ask_every_reach(text).items():
                numbers = walked[(v, i)].get((w, j))
                if numbers is not None:
                    self.assertEqual(row, [0, len(numbers)])
                elif row != [-6]:
                    self.assertEqual(row[0], 0)
                    self.assertGreater(row[1], most)

    def test_larger_programs_gone_over_place_by_place(self):
        source = random.Random(43)
        for points in (4, 8, 12, 16, 24, 32):
            text = random_text(source, 4, points, 8, 64)
            fewest = fewest_between(text)
            for (v, i, w, j), row in ask_every_reach_in_parts(text):
                self.assertEqual(row, told_of(0 if (i, v) == (j, w) else fewest[(i, v)].get((j, w))))


if __name__ == "__main__":
    unittest.main()
