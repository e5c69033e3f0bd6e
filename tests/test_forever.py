"""Promise 6: forever."""

import random
import unittest

from reference import (ANY, CALL, GO, LARGEST, RETURN, ask, ask_last, begin, doubling_text, ends_of_all, every_place,
                       far_text, forever, function, random_text, rule, walk_all)


def ask_every_forever(text):
    places = every_place(text)
    rows = ask(*text.calls(), *[forever(v, i) for i, v in places])
    return dict(zip(places, rows[-len(places):]))


class NotThereTest(unittest.TestCase):
    ahead = (begin(3, 2), rule(1, ANY, GO, ANY, 1))

    def test_no_such_value(self):
        for number, told in ((0, [1]), (2, [1]), (3, [-2]), (4, [-2]), (5, [-2]), (LARGEST, [-2])):
            with self.subTest(number=number):
                self.assertEqual(ask_last(*self.ahead, forever(number, 1)), told)

    def test_no_such_point(self):
        for number, told in ((0, [0]), (1, [1]), (2, [-2]), (32, [-2]), (LARGEST, [-2])):
            with self.subTest(number=number):
                self.assertEqual(ask_last(*self.ahead, forever(2, number)), told)

    def test_four_is_no_value_and_32_no_point_at_the_most(self):
        rows = ask(begin(4, 32), forever(3, 31), forever(4, 31), forever(3, 32), forever(LARGEST, LARGEST))
        self.assertEqual(rows[1:], [[0], [-2], [-2], [-2]])


class WithoutEndTest(unittest.TestCase):
    def test_ring_of_one_point(self):
        self.assertEqual(ask_last(begin(1, 1), rule(0, ANY, GO, ANY, 0), forever(0, 0)), [1])

    def test_ring_of_points(self):
        for length in (2, 3, 32):
            ring = [rule(point, ANY, GO, ANY, (point + 1) % length) for point in range(length)]
            rows = ask(begin(1, 32), *ring, *[forever(0, point) for point in range(length)])
            self.assertEqual(rows[1 + length:], [[1]] * length)

    def test_ring_of_values(self):
        ring = (rule(0, 0, GO, 1, 0), rule(0, 1, GO, 2, 0), rule(0, 2, GO, 0, 0))
        rows = ask(begin(4, 1), *ring, *[forever(value, 0) for value in range(4)])
        self.assertEqual(rows[4:], [[1], [1], [1], [0]])

    def test_where_a_ring_is_come_to(self):
        ahead = (begin(1, 4), rule(0, ANY, GO, ANY, 1), rule(1, ANY, GO, ANY, 2), rule(2, ANY, GO, ANY, 1),
                 rule(3, ANY, RETURN, ANY))
        self.assertEqual(ask(*ahead, *[forever(0, i) for i in range(4)])[5:], [[1], [1], [1], [0]])

    def test_though_other_runs_end(self):
        ahead = (begin(1, 2), rule(0, ANY, RETURN, ANY), rule(0, ANY, GO, ANY, 1), rule(0, ANY, GO, ANY, 0))
        self.assertEqual(ask(*ahead, forever(0, 0), forever(0, 1))[4:], [[1], [0]])

    def test_calls_itself_deeper_and_deeper(self):
        ahead = (begin(1, 2), function(0), rule(0, ANY, CALL, ANY, 0, 1))
        self.assertEqual(ask(*ahead, forever(0, 0), forever(0, 1))[3:], [[1], [0]])

    def test_calls_itself_though_it_could_come_back(self):
        ahead = (begin(1, 2), function(0), rule(0, ANY, CALL, ANY, 0, 1), rule(0, ANY, RETURN, ANY),
                 rule(1, ANY, RETURN, ANY))
        self.assertEqual(ask(*ahead, forever(0, 0), forever(0, 1))[5:], [[1], [0]])

    def test_functions_that_call_one_another_deeper_and_deeper(self):
        ahead = [begin(1, 10)] + [function(point) for point in range(8)]
        ahead += [rule(point, ANY, CALL, ANY, (point + 1) % 8, 9) for point in range(8)]
        rows = ask(*ahead, rule(8, ANY, CALL, ANY, 3, 9), *[forever(0, i) for i in range(10)])
        self.assertEqual(rows[-10:], [[1]] * 9 + [[0]])

    def test_ring_behind_a_call_that_has_come_back(self):
        ahead = (begin(2, 4), function(2), rule(0, ANY, CALL, ANY, 0, 1), rule(2, ANY, RETURN, 1))
        self.assertEqual(ask(*ahead, rule(1, 1, GO, ANY, 1), forever(0, 0), forever(0, 2))[-2:], [[1], [0]])
        self.assertEqual(ask(*ahead, rule(1, 0, GO, ANY, 1), forever(0, 0), forever(0, 1))[-2:], [[0], [1]])

    def test_ring_over_calls_that_come_back(self):
        ahead = (begin(1, 3), function(2), rule(0, ANY, CALL, ANY, 0, 1), rule(2, ANY, RETURN, ANY),
                 rule(1, ANY, CALL, ANY, 0, 0))
        self.assertEqual(ask(*ahead, forever(0, 0), forever(0, 1), forever(0, 2))[5:], [[1], [1], [0]])

    def test_ring_within_a_call(self):
        ahead = (begin(1, 4), function(2), rule(0, ANY, CALL, ANY, 0, 1), rule(2, ANY, GO, ANY, 3),
                 rule(3, ANY, GO, ANY, 2), rule(3, ANY, RETURN, ANY))
        self.assertEqual(ask(*ahead, forever(0, 0), forever(0, 1), forever(0, 3))[6:], [[1], [0], [1]])

    def test_ring_within_a_call_behind_a_call(self):
        ahead = (begin(3, 5), function(2), function(3), rule(0, ANY, CALL, ANY, 0, 1), rule(2, 0, RETURN, 1),
                 rule(1, 1, CALL, 2, 1, 4), rule(3, 2, GO, ANY, 3))
        rows = ask(*ahead, forever(0, 0), forever(1, 0), forever(0, 1), forever(1, 1), forever(1, 3))
        self.assertEqual(rows[7:], [[1], [0], [0], [1], [0]])


class EachRunEndsTest(unittest.TestCase):
    def test_no_rules(self):
        self.assertEqual(ask(begin(1, 1), forever(0, 0), function(0), forever(0, 0))[1::2], [[0], [0]])

    def test_back(self):
        ahead = (begin(1, 3), rule(0, ANY, GO, ANY, 1), rule(0, ANY, GO, ANY, 2), rule(1, ANY, GO, ANY, 2),
                 rule(2, ANY, RETURN, ANY))
        self.assertEqual(ask(*ahead, forever(0, 0), forever(0, 2))[5:], [[0], [0]])

    def test_no_rule_fits(self):
        ahead = (begin(2, 2), rule(0, ANY, GO, 1, 1), rule(1, 0, GO, ANY, 0))
        self.assertEqual(ask(*ahead, forever(0, 0), forever(1, 1), forever(0, 1))[3:], [[0], [0], [0]])

    def test_ring_that_the_value_breaks(self):
        # Round the ring once it has value 1, and at point 1 only value 0 fits.
        ahead = (begin(2, 3), rule(0, ANY, GO, ANY, 1), rule(1, 0, GO, 1, 2), rule(2, ANY, GO, ANY, 0))
        self.assertEqual(ask_last(*ahead, forever(0, 0)), [0])

    def test_ring_that_cannot_be_come_to(self):
        ahead = (begin(1, 4), rule(0, ANY, GO, ANY, 1), rule(2, ANY, GO, ANY, 3), rule(3, ANY, GO, ANY, 2),
                 rule(2, ANY, GO, ANY, 0))
        self.assertEqual(ask(*ahead, forever(0, 0), forever(0, 1), forever(0, 2))[5:], [[0], [0], [1]])

    def test_behind_a_call_that_never_comes_back(self):
        ahead = (begin(1, 4), function(2), rule(0, ANY, CALL, ANY, 0, 1), rule(1, ANY, GO, ANY, 1),
                 rule(2, ANY, GO, ANY, 3))
        self.assertEqual(ask(*ahead, forever(0, 0), forever(0, 1))[5:], [[0], [1]])
        self.assertEqual(ask(*ahead, rule(3, ANY, RETURN, ANY), forever(0, 0))[6:], [[1]])

    def test_the_same_function_called_again_and_again(self):
        # Not deeper: each call has come back ahead of the next.
        chain = [rule(point, ANY, CALL, ANY, 0, point + 1) for point in range(30)]
        ahead = (begin(1, 32), function(31), rule(31, ANY, RETURN, ANY), rule(30, ANY, RETURN, ANY))
        self.assertEqual(ask_last(*ahead, *chain, forever(0, 0)), [0])

    def test_calls_of_itself_that_the_value_ends(self):
        ahead = [begin(4, 2), function(0), rule(0, 3, RETURN, ANY), rule(1, ANY, RETURN, ANY)]
        ahead += [rule(0, value, CALL, value + 1, 0, 1) for value in range(3)]
        self.assertEqual(ask(*ahead, *[forever(v, 0) for v in range(4)])[-4:], [[0]] * 4)

    def test_goes_on_at_its_own_point_where_back_is_the_end(self):
        # A call goes on where it was made, but only with a value that it isn't made with again.
        ahead = (begin(2, 2), function(1), rule(0, 0, CALL, ANY, 0, 0), rule(1, ANY, RETURN, 1))
        self.assertEqual(ask_last(*ahead, forever(0, 0)), [0])
        self.assertEqual(ask_last(*ahead, rule(1, ANY, RETURN, 0), forever(0, 0)), [1])

    def test_runs_of_very_many_steps_end_too(self):
        self.assertEqual(ask(*doubling_text().calls(), forever(0, 0), forever(3, 0))[-2:], [[0], [0]])
        # With value 2 the steps are above 2^32; with value 3 it may call itself with the value it has.
        self.assertEqual(ask(*far_text().calls(), forever(2, 26), forever(3, 26))[-2:], [[0], [1]])


class LaterTest(unittest.TestCase):
    def test_rules_that_come_later_count(self):
        asked = forever(0, 0)
        rows = ask(begin(1, 3), asked, rule(0, ANY, GO, ANY, 1), asked, rule(2, ANY, GO, ANY, 0), asked,
                   rule(1, ANY, GO, ANY, 2), asked, rule(1, ANY, RETURN, ANY), asked)
        self.assertEqual(rows[1::2], [[0], [0], [0], [1], [1]])

    def test_functions_and_what_they_do_later_count(self):
        asked = forever(0, 0)
        rows = ask(begin(1, 3), rule(1, ANY, GO, ANY, 1), asked, function(2), asked,
                   rule(0, ANY, CALL, ANY, 0, 1), asked, rule(2, ANY, RETURN, ANY), asked)
        self.assertEqual(rows[2::2], [[0], [0], [0], [1]])

    def test_refused_rules_change_nothing(self):
        asked = forever(0, 0)
        rows = ask(begin(1, 2), function(0), rule(0, ANY, GO, 1, 0), asked, rule(0, ANY, CALL, ANY, 1, 0), asked,
                   rule(0, ANY, 3, ANY, 0), asked, rule(0, ANY, CALL, ANY, 0, 2), asked)
        self.assertEqual(rows[2:], [[-22], [0]] * 4)

    def test_a_rule_more_takes_no_run_away(self):
        source = random.Random(61)
        for _ in range(40):
            text = random_text(source, source.randint(1, 3), source.randint(2, 6), source.randint(1, 3), 14)
            v, i = source.randrange(text.values), source.randrange(text.points)
            calls = [begin(text.values, text.points)] + [function(point) for point in text.starts]
            for one in text.rules:
                calls += [rule(*one), forever(v, i)]
            told = [row[0] for row in ask(*calls)[2 + len(text.starts)::2]]
            self.assertEqual(told, sorted(told))


class AgainstSlowWaysTest(unittest.TestCase):
    def test_small_programs_walked_state_by_state(self):
        source = random.Random(67)
        counts = {"forever": 0, "stuck": 0, "always back": 0}
        for _ in range(500):
            text = random_text(source, source.randint(1, 3), source.randint(1, 5), source.randint(1, 3),
                               source.randint(1, 9))
            for (i, v), row in ask_every_forever(text).items():
                name = walk_all(text, v, i)
                counts[name] += 1
                self.assertEqual(row, [1 if name == "forever" else 0])
        self.assertTrue(all(count > 100 for count in counts.values()))

    def test_large_programs_gone_over_place_by_place(self):
        source = random.Random(71)
        for rules in (16, 24, 32, 40, 48, 64):
            for points in (16, 32):
                text = random_text(source, 4, points, 8, rules)
                names = ends_of_all(text)
                for place, row in ask_every_forever(text).items():
                    self.assertEqual(row, [1 if names[place] == "forever" else 0])


if __name__ == "__main__":
    unittest.main()
