"""The interface: callruns.program.answers, the form of what is handed in and of what is given back."""

import contextlib
import inspect
import io
import random
import sys
import unittest

from callruns.program import answers
from reference import (ANY, CALL, GO, RETURN, Text, always, ask, back, begin, ends_of_all, every_place, far_text,
                       fewest_between, fewest_till_back, forever, function, line, random_text, reach, rule, take_apart,
                       told_of, walk_by, way, winding_text)


def question(source, values, points, functions):
    """Any of the five calls that ask, of what is there."""
    v, w = source.randrange(values), source.randrange(values)
    i, j = source.randrange(points), source.randrange(points)
    return source.choice((back(source.randrange(functions), v, w), reach(v, i, w, j), way(v, i, w, j), forever(v, i),
                          always(v, i)))


def mixed_line():
    """All eight calls, with questions between the rules, refusals and a begin that comes again."""
    source = random.Random(17)
    calls = []
    for _ in range(12):
        text = random_text(source, 3, 6, 4, 10)
        for call in text.calls():
            calls += [call]
            if call[0] == 2:
                calls += [question(source, 3, 6, 4), question(source, 3, 6, 4)]
        calls += [begin(9, 9), function(6), rule(0, 9, 9, 9), back(0, 0, 1), back(8, 0, 0), reach(0, 0, 3, 0),
                  way(0, 6, 0, 0), forever(3, 0), always(0, 6)]
    return line(*calls)


class NeverChanged(list):
    """A list that fails as soon as something tries to change it."""

    def refuse(self, *given):
        raise AssertionError("the list that was handed in is changed")

    append = extend = insert = pop = remove = clear = reverse = sort = refuse
    __setitem__ = __delitem__ = __iadd__ = __imul__ = refuse


class InterfaceTest(unittest.TestCase):
    def test_form_of_each_answer(self):
        for call, told in ((begin(2, 2), [1, 0]), (begin(5, 2), [1, -22]), (function(1), [1, 1]),
                           (function(2), [1, -22]), (rule(0, 0, GO, 0, 1), [1, 1]), (rule(0, 0, 3, 0), [1, -22]),
                           (back(0, 0, 0), [2, 0, 1]), (back(1, 0, 0), [1, -2]), (back(0, 0, 1), [1, -6]),
                           (reach(1, 1, 1, 1), [2, 0, 0]), (reach(2, 0, 0, 0), [1, -2]), (reach(0, 0, 0, 1), [1, -6]),
                           (way(1, 1, 1, 1), [1, 0]), (way(0, 2, 0, 0), [1, -2]), (way(0, 0, 0, 1), [1, -6]),
                           (forever(0, 0), [1, 0]), (forever(2, 0), [1, -2]), (always(0, 0), [1, 1]),
                           (always(1, 0), [1, 0]), (always(0, 2), [1, -2])):
            with self.subTest(call=call):
                ahead = line(begin(2, 2), function(0), rule(0, 0, RETURN, ANY))
                self.assertEqual(answers(ahead + call), [1, 0, 1, 0, 1, 0] + told)

    def test_form_of_a_way(self):
        ahead = line(begin(1, 3), rule(1, 0, GO, 0, 2), rule(0, 0, GO, 0, 1), rule(2, 0, GO, 0, 2))
        told = answers(ahead + way(0, 0, 0, 2) + way(0, 1, 0, 2) + way(0, 2, 0, 2) + reach(0, 0, 0, 2) + forever(0, 0))
        self.assertEqual(told, [1, 0, 1, 0, 1, 1, 1, 2, 3, 2, 1, 0, 2, 1, 0, 1, 0, 2, 0, 2, 1, 1])

    def test_too_far_is_a_refusal_alone(self):
        ahead = line(*far_text().calls())
        asked = back(7, 3, 0) + reach(3, 0, 3, 30) + way(3, 0, 3, 30)
        self.assertEqual(answers(ahead + asked)[len(answers(ahead)):], [1, -75, 1, -75, 1, -28])

    def test_call_by_call(self):
        calls = [0, 4, 32, 1, 3, 2, 3, 4, 1, 4, 0, 5, 2, 3, 1, 2, 0, 0, 0, 3, 0, 1, 0, 2, 5, 0, 2, 2, 9, 9,
                 3, 0, 0, 0, 3, 0, 1, 2, 3, 1, 0, 0]
        self.assertEqual(answers(calls), [1, 0, 1, 0, 1, 0, 1, 1, 2, 0, 1, 1, 2, 1, -6, 2, 0, 3, 1, -2])

    def test_kinds(self):
        told = answers(mixed_line())
        self.assertIs(type(told), list)
        self.assertTrue(all(type(number) is int for number in told))

    def test_one_call(self):
        self.assertEqual(answers([0, 1, 1]), [1, 0])
        self.assertEqual(answers([0, 0, 0]), [1, -22])

    def test_handed_in_is_the_same_behind_the_call(self):
        calls = mixed_line()
        before = list(calls)
        answers(calls)
        self.assertEqual(calls, before)

    def test_handed_in_is_not_changed_for_a_while_either(self):
        calls = mixed_line()
        self.assertEqual(answers(NeverChanged(calls)), answers(calls))

    def test_given_back_is_a_new_list(self):
        calls = mixed_line()
        told = answers(calls)
        before = list(told)
        told.clear()
        self.assertEqual(answers(calls), before)

    def test_the_same_again(self):
        calls = mixed_line()
        told = answers(calls)
        answers(line(begin(4, 32), *[function(0)] * 8, *[rule(0, ANY, RETURN, ANY)] * 64, back(0, 0, 0),
                     reach(0, 0, 0, 1), way(0, 0, 0, 1), forever(0, 0), always(0, 0)))
        self.assertEqual(answers(calls), told)

    def test_nothing_is_kept(self):
        answers(line(begin(1, 1), function(0), rule(0, ANY, RETURN, ANY), back(0, 0, 0)))
        self.assertEqual(answers(line(begin(1, 1), back(0, 0, 0), function(0), back(0, 0, 0))),
                         [1, 0, 1, -2, 1, 0, 1, -6])
        answers(line(begin(1, 2), rule(0, ANY, GO, ANY, 1), rule(1, ANY, RETURN, ANY), reach(0, 0, 0, 1),
                     way(0, 0, 0, 1), always(0, 0), rule(0, ANY, GO, ANY, 0), forever(0, 0)))
        self.assertEqual(ask(begin(1, 2), reach(0, 0, 0, 1), way(0, 0, 0, 1), forever(0, 0), always(0, 0))[1:],
                         [[-6], [-6], [0], [0]])

    def test_prints_nothing(self):
        out, err = io.StringIO(), io.StringIO()
        with contextlib.redirect_stdout(out), contextlib.redirect_stderr(err):
            answers(mixed_line())
        self.assertEqual((out.getvalue(), err.getvalue()), ("", ""))

    def test_2000_calls_of_one_program(self):
        ahead = far_text().calls()
        asked = [back(number % 8, number % 4, number // 4 % 4) for number in range(2000 - len(ahead))]
        rows = take_apart(answers(line(*ahead, *asked)))
        self.assertEqual(len(rows), 2000)
        again = take_apart(answers(line(*ahead, *asked[:128])))
        self.assertEqual(rows[:len(again)], again)

    def test_2000_calls_that_ask_behind_each_rule(self):
        source = random.Random(19)
        calls = []
        while len(calls) < 2000:
            text = random_text(source, 4, 32, 8, 64)
            calls += [begin(4, 32)] + [function(point) for point in text.starts]
            for one in text.rules:
                calls += [rule(*one), back(source.randrange(8), source.randrange(4), source.randrange(4))]
        rows = take_apart(answers(line(*calls[:2000])))
        self.assertEqual(len(rows), 2000)
        self.assertTrue(all(len(row) == (2 if calls[at][0] == 3 and row[0] == 0 else 1)
                            for at, row in enumerate(rows)))

    def test_deep_calls_without_deep_recursion(self):
        # In this program calls lie more than 30 deep within one another.
        calls = line(*far_text().calls(), back(7, 3, 0), back(0, 3, 3), reach(3, 0, 3, 29), way(3, 0, 2, 26),
                     forever(3, 0), always(2, 0), always(3, 0))
        told = answers(calls)
        before = sys.getrecursionlimit()
        sys.setrecursionlimit(len(inspect.stack()) + 20)
        try:
            again = answers(calls)
        finally:
            sys.setrecursionlimit(before)
        self.assertEqual(again, told)

    def test_calls_within_one_another_over_every_point(self):
        chain = [rule(point, ANY, CALL, ANY, 0, point + 1) for point in range(1, 31)]
        ahead = [begin(1, 32), function(0), rule(0, ANY, RETURN, ANY), function(1)] + chain
        calls = line(*ahead, rule(31, ANY, RETURN, ANY), back(1, 0, 0))
        self.assertEqual(answers(calls)[-3:], [2, 0, 61])


class WholeProgramTest(unittest.TestCase):
    """All eight calls in one list."""

    def test_questions_between_the_rules(self):
        asked = (back(0, 0, 1), reach(0, 0, 1, 2), way(0, 0, 1, 2), forever(0, 0), always(0, 0))
        rows = ask(begin(2, 3), function(0), function(1), *asked,
                   rule(0, ANY, CALL, ANY, 1, 2), *asked,
                   rule(1, ANY, RETURN, 1), *asked,
                   rule(2, ANY, RETURN, ANY), *asked,
                   rule(1, 0, GO, ANY, 1), *asked)
        self.assertEqual(rows[:3], [[0], [0], [1]])
        self.assertEqual(rows[3:8], [[-6], [-6], [-6], [0], [0]])
        self.assertEqual(rows[8:14], [[0], [-6], [-6], [-6], [0], [0]])
        self.assertEqual(rows[14:20], [[1], [-6], [0, 2], [2, 0, 1], [0], [0]])
        self.assertEqual(rows[20:26], [[2], [0, 3], [0, 2], [2, 0, 1], [0], [1]])
        self.assertEqual(rows[26:32], [[3], [0, 3], [0, 2], [2, 0, 1], [1], [0]])

    def test_a_begin_that_comes_again(self):
        built = (begin(2, 3), function(0), rule(0, ANY, GO, 1, 1), rule(1, ANY, RETURN, ANY), rule(2, ANY, GO, ANY, 2))
        asked = (back(0, 0, 1), reach(0, 0, 1, 1), way(0, 0, 1, 1), forever(0, 2), always(0, 0))
        told = [[0, 2], [0, 1], [1, 0], [1], [1]]
        self.assertEqual(ask(*built, *asked)[5:], told)
        rows = ask(*built, *asked, begin(2, 3), *asked, begin(2, 0), *asked, *built, begin(0, 3), *asked)
        self.assertEqual(rows[11:16], [[-2], [-6], [-6], [0], [0]])
        self.assertEqual(rows[16:22], [[-22], [-2], [-6], [-6], [0], [0]])
        self.assertEqual(rows[-6:], [[-22]] + told)

    def test_a_begin_with_fewer_values_and_points(self):
        ahead = (begin(4, 32), rule(31, ANY, GO, ANY, 31), forever(3, 31), reach(3, 31, 3, 31), begin(2, 3))
        for call in (reach(2, 0, 0, 0), reach(0, 3, 0, 0), reach(0, 0, 2, 0), reach(0, 0, 0, 3), way(2, 0, 0, 0),
                     way(0, 0, 0, 3), forever(2, 0), forever(0, 3), always(2, 0), always(0, 3)):
            with self.subTest(call=call):
                self.assertEqual(ask(*ahead, call)[-1], [-2])
        self.assertEqual(ask(*ahead, begin(4, 32), reach(3, 31, 3, 31), forever(3, 31))[-2:], [[0, 0], [0]])

    def test_refused_calls_change_nothing(self):
        source = random.Random(101)
        for _ in range(20):
            text = random_text(source, 3, 8, 4, 20)
            asked = [question(source, 3, 8, 4) for _ in range(100)]
            wrong = (begin(0, 8), begin(5, 8), begin(3, 33), function(8), rule(8, 0, GO, 0, 0), rule(0, 3, GO, 0, 0),
                     rule(0, 0, GO, 3, 0), rule(0, 0, 3, 0), rule(0, 0, GO, 0, 8), rule(0, 0, CALL, 0, 4, 0),
                     rule(0, 0, CALL, 0, 0, 8), back(4, 0, 0), reach(3, 0, 0, 0), way(0, 8, 0, 0), forever(3, 0),
                     always(0, 8))
            mixed = []
            for call in text.calls() + asked:
                mixed += [source.choice(wrong[:3] if not mixed else wrong), call]
            rows = ask(*mixed)
            self.assertTrue(all(row[0] < 0 and len(row) == 1 for row in rows[::2]))
            self.assertEqual(rows[1::2], ask(*text.calls(), *asked))

    def test_each_answer_of_a_mixed_list(self):
        source = random.Random(103)
        for points in (6, 12, 24):
            text = random_text(source, 4, points, 8, 64)
            calls = text.calls()[:1 + 8]
            asked = {}
            for number, one in enumerate(text.rules):
                calls.append(rule(*one))
                if number % 16 == 15:
                    asked[number + 1] = [question(source, 4, points, 8) for _ in range(120)]
                    calls += asked[number + 1]
            rows = [row for call, row in zip(calls, ask(*calls)) if call[0] > 2]
            for count, part in asked.items():
                self.check(text_with(text, count), part, rows[:len(part)])
                rows = rows[len(part):]

    def check(self, text, asked, rows):
        fewest, between, names = fewest_till_back(text), fewest_between(text), ends_of_all(text)
        for call, row in zip(asked, rows):
            number, given = call[0], call[1:]
            if number == 3:
                steps = fewest.get((text.starts[given[0]], given[1], given[2]))
                self.assertEqual(row, told_of(steps))
            elif number in (4, 5):
                v, i, w, j = given
                steps = 0 if (v, i) == (w, j) else between[(i, v)].get((j, w))
                self.check_steps(text, call, row, steps)
            else:
                name = names[(given[1], given[0])]
                self.assertEqual(row, [1 if name == ("forever" if number == 6 else "always back") else 0])

    def check_steps(self, text, call, row, steps):
        if call[0] == 4 or steps is None:
            self.assertEqual(row, told_of(steps))
        elif steps > 32:
            self.assertEqual(row, [-28])
        else:
            self.assertEqual([row[0], len(row)], [steps, steps + 1])
            self.assertEqual(walk_by(text, call[1], call[2], row[1:])[:2], (call[3], call[4]))

    def test_2000_calls_with_many_questions(self):
        source = random.Random(107)
        for text in (far_text(), random_text(source, 4, 32, 8, 64), winding_text(source, 14)):
            calls = text.calls()
            while len(calls) < 2000:
                v, i, w, j = [source.randrange(limit) for limit in (text.values, text.points) * 2]
                calls.append(source.choice((way(v, i, w, j), way(v, i, w, j), forever(v, i), always(v, i))))
            self.check_2000(calls)

    def test_2000_calls_with_questions_behind_each_rule(self):
        source = random.Random(109)
        calls = []
        while len(calls) < 2000:
            text = random_text(source, 4, 32, 8, 64)
            calls += [begin(4, 32)] + [function(point) for point in text.starts]
            for one in text.rules:
                calls += [rule(*one), question(source, 4, 32, 8)]
        self.check_2000(calls[:2000])

    def check_2000(self, calls):
        self.assertEqual(len(calls), 2000)
        self.assertLessEqual(len(line(*calls)), 30000)
        told = answers(line(*calls))
        rows = take_apart(told)
        self.assertEqual(len(rows), 2000)
        self.assertLess(len(told), 1000000)
        for call, row in zip(calls, rows):
            if call[0] == 5 and row[0] >= 0:
                self.assertEqual(len(row), 1 + row[0])
            else:
                self.assertEqual(len(row), 2 if call[0] in (3, 4) and row[0] == 0 else 1)
        self.assertEqual(answers(line(*calls)), told)

    def test_every_place_of_the_largest_program(self):
        text = random_text(random.Random(113), 4, 32, 8, 64)
        names = ends_of_all(text)
        asked = [call(v, i) for i, v in every_place(text) for call in (forever, always)]
        rows = ask(*text.calls(), *asked)[-len(asked):]
        told = [row[0] for row in rows]
        self.assertEqual(told, [int(names[(call[2], call[1])] == ("forever" if call[0] == 6 else "always back"))
                                for call in asked])


def text_with(text, count):
    """The program as it is with so many of its rules."""
    return Text(text.values, text.points, text.starts, text.rules[:count])


if __name__ == "__main__":
    unittest.main()
