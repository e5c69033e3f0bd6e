"""Promise 7: always."""

import random
import unittest

from reference import (ANY, CALL, GO, LARGEST, RETURN, Text, always, ask, ask_last, begin, doubling_text, ends_of_all,
                       every_place, far_text, forever, function, random_text, rule, steps_from, walk_all)


def ask_every_always(text):
    places = every_place(text)
    rows = ask(*text.calls(), *[always(v, i) for i, v in places])
    return dict(zip(places, rows[-len(places):]))


class NotThereTest(unittest.TestCase):
    ahead = (begin(3, 2), rule(1, ANY, RETURN, ANY))

    def test_no_such_value(self):
        for number, told in ((0, [1]), (2, [1]), (3, [-2]), (4, [-2]), (5, [-2]), (LARGEST, [-2])):
            with self.subTest(number=number):
                self.assertEqual(ask_last(*self.ahead, always(number, 1)), told)

    def test_no_such_point(self):
        for number, told in ((0, [0]), (1, [1]), (2, [-2]), (32, [-2]), (LARGEST, [-2])):
            with self.subTest(number=number):
                self.assertEqual(ask_last(*self.ahead, always(2, number)), told)

    def test_four_is_no_value_and_32_no_point_at_the_most(self):
        rows = ask(begin(4, 32), rule(31, ANY, RETURN, ANY), always(3, 31), always(4, 31), always(3, 32),
                   always(LARGEST, LARGEST))
        self.assertEqual(rows[2:], [[1], [-2], [-2], [-2]])


class AlwaysBackTest(unittest.TestCase):
    def test_at_once(self):
        self.assertEqual(ask_last(begin(1, 1), rule(0, ANY, RETURN, ANY), always(0, 0)), [1])
        ahead = (begin(2, 1), rule(0, ANY, RETURN, 0), rule(0, ANY, RETURN, 1))
        self.assertEqual(ask(*ahead, always(0, 0), always(1, 0))[3:], [[1], [1]])

    def test_over_points_whatever_rule_is_taken(self):
        ahead = (begin(1, 4), rule(0, ANY, GO, ANY, 1), rule(0, ANY, GO, ANY, 2), rule(0, ANY, RETURN, ANY),
                 rule(1, ANY, GO, ANY, 2), rule(1, ANY, GO, ANY, 3), rule(2, ANY, GO, ANY, 3),
                 rule(3, ANY, RETURN, ANY))
        self.assertEqual(ask(*ahead, *[always(0, i) for i in range(4)])[8:], [[1], [1], [1], [1]])

    def test_over_values(self):
        ahead = (begin(4, 1), rule(0, 0, GO, 1, 0), rule(0, 1, GO, 2, 0), rule(0, 2, RETURN, ANY))
        self.assertEqual(ask(*ahead, *[always(v, 0) for v in range(4)])[4:], [[1], [1], [1], [0]])

    def test_over_many_calls(self):
        chain = [rule(point, ANY, CALL, ANY, 0, point + 1) for point in range(30)]
        ahead = [begin(2, 32), function(31), rule(31, ANY, RETURN, 0), rule(31, ANY, RETURN, 1),
                 rule(30, ANY, RETURN, ANY)]
        self.assertEqual(ask(*ahead, *chain, always(0, 0), always(1, 29))[-2:], [[1], [1]])

    def test_over_calls_of_itself_that_the_value_ends(self):
        ahead = [begin(4, 2), function(0), rule(0, 3, RETURN, ANY), rule(1, ANY, RETURN, ANY)]
        ahead += [rule(0, value, CALL, value + 1, 0, 1) for value in range(3)]
        ahead += [rule(0, value, GO, value + 1, 0) for value in range(3)]
        self.assertEqual(ask(*ahead, *[always(v, 0) for v in range(4)])[-4:], [[1]] * 4)

    def test_each_function_calls_the_next_twice(self):
        self.assertEqual(ask(*doubling_text().calls(), always(0, 0), always(2, 18), always(3, 0))[-3:], [[1], [1], [0]])

    def test_over_very_many_steps(self):
        # With value 2 the fewest steps are above 2^32, and no more than one rule ever fits.
        self.assertEqual(ask(*far_text().calls(), always(2, 26), always(3, 26))[-2:], [[1], [0]])

    def test_what_cannot_be_come_to_does_not_matter(self):
        ahead = (begin(2, 5), function(4), rule(0, 0, CALL, ANY, 0, 1), rule(4, ANY, RETURN, 1),
                 rule(1, 1, RETURN, ANY), rule(1, 0, GO, ANY, 1), rule(2, ANY, GO, ANY, 2),
                 rule(3, ANY, CALL, ANY, 0, 2))
        self.assertEqual(ask(*ahead, always(0, 0), always(1, 0), always(0, 1), always(0, 3))[8:], [[1], [0], [0], [0]])

    def test_no_run_passes_some_number_of_steps(self):
        source = random.Random(73)
        seen = 0
        for _ in range(200):
            text = random_text(source, source.randint(1, 3), source.randint(1, 5), source.randint(1, 3), 6)
            for (i, v), row in ask_every_always(text).items():
                if row == [1]:
                    seen += 1
                    self.assert_each_run_is_back(text, (v, i, ()))
        self.assertGreater(seen, 100)

    def assert_each_run_is_back(self, text, start):
        states = {start}
        for _ in range(1000):
            self.assertTrue(all(list(steps_from(text, state)) for state in states))
            states = {after for state in states for _, after in steps_from(text, state) if after[1] is not None}
            if not states:
                return
        self.fail("some run isn't back in 1000 steps")


class NotAlwaysTest(unittest.TestCase):
    def test_point_without_rules(self):
        self.assertEqual(ask(begin(1, 2), always(0, 0), function(0), always(0, 0), rule(1, ANY, RETURN, ANY),
                             always(0, 0))[1::2], [[0], [0], [0]])

    def test_no_rule_fits_the_value(self):
        ahead = (begin(2, 1), rule(0, 1, RETURN, ANY))
        self.assertEqual(ask(*ahead, always(0, 0), always(1, 0))[2:], [[0], [1]])

    def test_goes_on_without_end(self):
        self.assertEqual(ask_last(begin(1, 1), rule(0, ANY, GO, ANY, 0), always(0, 0)), [0])
        self.assertEqual(ask_last(begin(1, 1), function(0), rule(0, ANY, CALL, ANY, 0, 0), always(0, 0)), [0])

    def test_one_of_several_rules_goes_on_without_end(self):
        ahead = (begin(1, 2), function(0), rule(0, ANY, RETURN, ANY), rule(1, ANY, RETURN, ANY))
        for one in (rule(0, ANY, GO, ANY, 0), rule(0, ANY, CALL, ANY, 0, 1)):
            self.assertEqual(ask(*ahead, always(0, 0), one, always(0, 0), always(0, 1))[4:], [[1], [2], [0], [1]])

    def test_one_of_several_rules_comes_to_where_none_fits(self):
        ahead = (begin(1, 3), rule(0, ANY, RETURN, ANY), rule(1, ANY, GO, ANY, 0))
        rows = ask(*ahead, always(0, 0), always(0, 1), rule(0, ANY, GO, ANY, 2), always(0, 0), always(0, 1))
        self.assertEqual(rows[3:], [[1], [1], [2], [0], [0]])

    def test_one_value_of_several_comes_to_where_none_fits(self):
        ahead = (begin(3, 2), rule(0, ANY, GO, 0, 1), rule(0, 2, GO, 1, 1), rule(1, 0, RETURN, ANY))
        self.assertEqual(ask(*ahead, always(0, 0), always(1, 0), always(2, 0))[4:], [[1], [1], [0]])

    def test_no_rule_fits_within_a_call(self):
        ahead = (begin(2, 4), function(2), rule(0, ANY, CALL, ANY, 0, 1), rule(1, ANY, RETURN, ANY),
                 rule(2, ANY, RETURN, ANY))
        rows = ask(*ahead, always(0, 0), rule(2, 1, GO, ANY, 3), always(0, 0), always(1, 0), rule(2, 0, GO, ANY, 3),
                   always(0, 0), always(0, 1))
        self.assertEqual(rows[5:], [[1], [3], [1], [0], [4], [0], [1]])

    def test_no_rule_fits_behind_a_call(self):
        ahead = (begin(2, 3), function(2), rule(0, ANY, CALL, ANY, 0, 1), rule(1, 0, RETURN, ANY),
                 rule(2, ANY, RETURN, 0))
        rows = ask(*ahead, always(0, 0), always(1, 0), rule(2, 1, RETURN, 1), always(0, 0), always(1, 0))
        self.assertEqual(rows[5:], [[1], [1], [3], [1], [0]])

    def test_ring_within_a_call(self):
        ahead = (begin(1, 3), function(2), rule(0, ANY, CALL, ANY, 0, 1), rule(1, ANY, RETURN, ANY),
                 rule(2, ANY, RETURN, ANY))
        self.assertEqual(ask(*ahead, always(0, 0), rule(2, ANY, GO, ANY, 2), always(0, 0))[5::2], [[1], [0]])

    def test_ring_behind_a_call(self):
        ahead = (begin(1, 3), function(2), rule(0, ANY, CALL, ANY, 0, 1), rule(1, ANY, RETURN, ANY),
                 rule(2, ANY, RETURN, ANY))
        self.assertEqual(ask(*ahead, always(0, 0), rule(1, ANY, GO, ANY, 0), always(0, 0))[5::2], [[1], [0]])

    def test_call_that_never_comes_back(self):
        ahead = (begin(1, 3), function(2), rule(0, ANY, CALL, ANY, 0, 1), rule(1, ANY, RETURN, ANY))
        self.assertEqual(ask(*ahead, always(0, 0), forever(0, 0))[4:], [[0], [0]])

    def test_never_both_for_ever_and_always_back(self):
        source = random.Random(79)
        for _ in range(60):
            text = random_text(source, 3, 8, 4, source.randint(4, 24))
            asked = [call(v, i) for i, v in every_place(text) for call in (forever, always)]
            rows = ask(*text.calls(), *asked)[-len(asked):]
            self.assertNotIn([[1], [1]], [rows[at:at + 2] for at in range(0, len(rows), 2)])


class LaterTest(unittest.TestCase):
    def test_rules_that_come_later_count(self):
        asked = always(0, 0)
        rows = ask(begin(1, 3), asked, rule(0, ANY, GO, ANY, 1), asked, rule(1, ANY, RETURN, ANY), asked,
                   rule(0, ANY, GO, ANY, 2), asked, rule(2, ANY, RETURN, ANY), asked, rule(2, ANY, GO, ANY, 0), asked)
        self.assertEqual(rows[1::2], [[0], [0], [1], [0], [1], [0]])

    def test_functions_and_what_they_do_later_count(self):
        asked = always(0, 0)
        rows = ask(begin(1, 3), rule(1, ANY, RETURN, ANY), asked, function(2), asked,
                   rule(0, ANY, CALL, ANY, 0, 1), asked, rule(2, ANY, RETURN, ANY), asked,
                   rule(2, ANY, CALL, ANY, 0, 1), asked)
        self.assertEqual(rows[2::2], [[0], [0], [0], [1], [0]])

    def test_refused_rules_change_nothing(self):
        asked = always(0, 0)
        rows = ask(begin(1, 2), rule(0, ANY, RETURN, ANY), asked, rule(0, ANY, GO, 1, 0), asked,
                   rule(0, ANY, CALL, ANY, 0, 0), asked, rule(0, ANY, GO, ANY, 2), asked)
        self.assertEqual(rows[2:], [[1], [-22], [1], [-22], [1], [-22], [1]])
        rows = ask(begin(1, 2), rule(0, ANY, RETURN, 1), asked, rule(0, ANY, 3, 0), asked)
        self.assertEqual(rows[1:], [[-22], [0], [-22], [0]])


class AgainstSlowWaysTest(unittest.TestCase):
    def test_small_programs_walked_state_by_state(self):
        source = random.Random(83)
        for _ in range(500):
            text = random_text(source, source.randint(1, 3), source.randint(1, 5), source.randint(1, 3),
                               source.randint(1, 9))
            for (i, v), row in ask_every_always(text).items():
                self.assertEqual(row, [1 if walk_all(text, v, i) == "always back" else 0])

    def test_programs_that_are_often_back(self):
        # Rules lead only to later points and later functions, and each point has one that comes back.
        source = random.Random(89)
        counts = [0, 0]
        for _ in range(60):
            text = downhill_text(source)
            names = ends_of_all(text)
            for place, row in ask_every_always(text).items():
                counts[row[0]] += 1
                self.assertEqual(row, [1 if names[place] == "always back" else 0])
        self.assertTrue(min(counts) > 100)

    def test_large_programs_gone_over_place_by_place(self):
        source = random.Random(97)
        for rules in (16, 24, 32, 40, 48, 64):
            for points in (16, 32):
                text = random_text(source, 4, points, 8, rules)
                names = ends_of_all(text)
                for place, row in ask_every_always(text).items():
                    self.assertEqual(row, [1 if names[place] == "always back" else 0])


def downhill_text(source):
    starts = sorted(source.sample(range(1, 16), 8))
    rows = [(point, ANY, RETURN, source.choice((ANY, 0, 1)), 0, 0) for point in range(15)]
    rows.append((15, source.choice((ANY, 0, 1)), RETURN, ANY, 0, 0))
    for _ in range(source.randint(10, 40)):
        point = source.randrange(15)
        later = [number for number, start in enumerate(starts) if start > point]
        kind = source.choice((GO, CALL)) if later else GO
        to = source.choice(later) if kind == CALL else source.randrange(point + 1, 16)
        rows.append((point, source.choice((ANY, 0, 1)), kind, source.choice((ANY, 0, 1)), to,
                     source.randrange(point + 1, 16)))
    source.shuffle(rows)
    return Text(2, 16, starts, rows)


if __name__ == "__main__":
    unittest.main()
