"""The interface: callruns.program.answers, the form of what is handed in and of what is given back."""

import contextlib
import inspect
import io
import random
import sys
import unittest

from callruns.program import answers
from reference import ANY, CALL, GO, RETURN, back, begin, far_text, function, line, random_text, rule, take_apart


def mixed_line():
    source = random.Random(17)
    calls = []
    for _ in range(12):
        text = random_text(source, 3, 6, 4, 10)
        calls += text.calls() + [begin(9, 9), function(6), rule(0, 9, 9, 9), back(0, 0, 1), back(8, 0, 0)]
    return line(*calls)


class NeverChanged(list):
    """A list that fails as soon as something tries to change it."""

    def refuse(self, *given):
        raise AssertionError("the list that was handed in is changed")

    append = extend = insert = pop = remove = clear = reverse = sort = refuse
    __setitem__ = __delitem__ = __iadd__ = __imul__ = refuse


class InterfaceTest(unittest.TestCase):
    def test_form_of_each_answer(self):
        for call, told in ((begin(2, 2), [1, 0]), (begin(5, 2), [1, -22]), (function(1), [1, 1]),
                           (function(2), [1, -22]), (rule(0, 0, GO, 0, 1), [1, 1]), (rule(0, 0, 3, 0), [1, -22]),
                           (back(0, 0, 0), [2, 0, 1]), (back(1, 0, 0), [1, -2]), (back(0, 0, 1), [1, -6])):
            with self.subTest(call=call):
                ahead = line(begin(2, 2), function(0), rule(0, 0, RETURN, ANY))
                self.assertEqual(answers(ahead + call), [1, 0, 1, 0, 1, 0] + told)

    def test_too_far_is_a_refusal_alone(self):
        ahead = line(*far_text().calls())
        self.assertEqual(answers(ahead + back(7, 3, 0))[len(answers(ahead)):], [1, -75])

    def test_call_by_call(self):
        calls = [0, 4, 32, 1, 3, 2, 3, 4, 1, 4, 0, 5, 2, 3, 1, 2, 0, 0, 0, 3, 0, 1, 0, 2, 5, 0, 2, 2, 9, 9,
                 3, 0, 0, 0, 3, 0, 1, 2, 3, 1, 0, 0]
        self.assertEqual(answers(calls), [1, 0, 1, 0, 1, 0, 1, 1, 2, 0, 1, 1, 2, 1, -6, 2, 0, 3, 1, -2])

    def test_kinds(self):
        told = answers(mixed_line())
        self.assertIs(type(told), list)
        self.assertTrue(all(type(number) is int for number in told))

    def test_one_call(self):
        self.assertEqual(answers([0, 1, 1]), [1, 0])
        self.assertEqual(answers([0, 0, 0]), [1, -22])

    def test_handed_in_is_the_same_behind_the_call(self):
        calls = mixed_line()
        before = list(calls)
        answers(calls)
        self.assertEqual(calls, before)

    def test_handed_in_is_not_changed_for_a_while_either(self):
        calls = mixed_line()
        self.assertEqual(answers(NeverChanged(calls)), answers(calls))

    def test_given_back_is_a_new_list(self):
        calls = mixed_line()
        told = answers(calls)
        before = list(told)
        told.clear()
        self.assertEqual(answers(calls), before)

    def test_the_same_again(self):
        calls = mixed_line()
        told = answers(calls)
        answers(line(begin(4, 32), *[function(0)] * 8, *[rule(0, ANY, RETURN, ANY)] * 64, back(0, 0, 0)))
        self.assertEqual(answers(calls), told)

    def test_nothing_is_kept(self):
        answers(line(begin(1, 1), function(0), rule(0, ANY, RETURN, ANY), back(0, 0, 0)))
        self.assertEqual(answers(line(begin(1, 1), back(0, 0, 0), function(0), back(0, 0, 0))),
                         [1, 0, 1, -2, 1, 0, 1, -6])

    def test_prints_nothing(self):
        out, err = io.StringIO(), io.StringIO()
        with contextlib.redirect_stdout(out), contextlib.redirect_stderr(err):
            answers(mixed_line())
        self.assertEqual((out.getvalue(), err.getvalue()), ("", ""))

    def test_2000_calls_of_one_program(self):
        ahead = far_text().calls()
        asked = [back(number % 8, number % 4, number // 4 % 4) for number in range(2000 - len(ahead))]
        rows = take_apart(answers(line(*ahead, *asked)))
        self.assertEqual(len(rows), 2000)
        again = take_apart(answers(line(*ahead, *asked[:128])))
        self.assertEqual(rows[:len(again)], again)

    def test_2000_calls_that_ask_behind_each_rule(self):
        source = random.Random(19)
        calls = []
        while len(calls) < 2000:
            text = random_text(source, 4, 32, 8, 64)
            calls += [begin(4, 32)] + [function(point) for point in text.starts]
            for one in text.rules:
                calls += [rule(*one), back(source.randrange(8), source.randrange(4), source.randrange(4))]
        rows = take_apart(answers(line(*calls[:2000])))
        self.assertEqual(len(rows), 2000)
        self.assertTrue(all(len(row) == (2 if calls[at][0] == 3 and row[0] == 0 else 1)
                            for at, row in enumerate(rows)))

    def test_deep_calls_without_deep_recursion(self):
        # In this program calls lie more than 30 deep within one another.
        calls = line(*far_text().calls(), back(7, 3, 0), back(0, 3, 3))
        told = answers(calls)
        before = sys.getrecursionlimit()
        sys.setrecursionlimit(len(inspect.stack()) + 20)
        try:
            again = answers(calls)
        finally:
            sys.setrecursionlimit(before)
        self.assertEqual(again, told)

    def test_calls_within_one_another_over_every_point(self):
        chain = [rule(point, ANY, CALL, ANY, 0, point + 1) for point in range(1, 31)]
        ahead = [begin(1, 32), function(0), rule(0, ANY, RETURN, ANY), function(1)] + chain
        calls = line(*ahead, rule(31, ANY, RETURN, ANY), back(1, 0, 0))
        self.assertEqual(answers(calls)[-3:], [2, 0, 61])


if __name__ == "__main__":
    unittest.main()
