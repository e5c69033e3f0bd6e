"""Promise 2: rule."""

import unittest

from reference import ANY, CALL, GO, LARGEST, RETURN, ask, ask_last, back, begin, function, rule


class RuleTest(unittest.TestCase):
    def told(self, *one):
        """What a rule is answered in a program of 3 values, 5 points and 2 functions."""
        return ask_last(begin(3, 5), function(4), function(0), rule(*one))

    def test_numbered_from_0_as_they_come(self):
        calls = (begin(2, 2), function(0), rule(0, 0, GO, 1, 1), rule(0, 0, GO, 1, 1),
                 rule(1, 1, CALL, 0, 0, 1), rule(1, ANY, RETURN, ANY))
        self.assertEqual(ask(*calls), [[0], [0], [0], [1], [2], [3]])

    def test_point(self):
        for point, told in ((0, 0), (4, 0), (5, -22), (LARGEST, -22)):
            for kind in (GO, CALL, RETURN):
                with self.subTest(point=point, kind=kind):
                    self.assertEqual(self.told(point, 0, kind, 0, 0, 0), [told])

    def test_when(self):
        for when, told in ((0, 0), (2, 0), (3, -22), (4, 0), (5, -22), (LARGEST, -22)):
            with self.subTest(when=when):
                self.assertEqual(self.told(0, when, RETURN, 0), [told])

    def test_set(self):
        for set_to, told in ((0, 0), (2, 0), (3, -22), (4, 0), (5, -22), (LARGEST, -22)):
            with self.subTest(set_to=set_to):
                self.assertEqual(self.told(0, 0, RETURN, set_to), [told])

    def test_when_and_set_for_each_number_of_values(self):
        for values in (1, 2, 3, 4):
            for number in (0, 1, 2, 3, 4, 5, 6, LARGEST):
                with self.subTest(values=values, number=number):
                    told = [0] if number < values or number == 4 else [-22]
                    self.assertEqual(ask_last(begin(values, 1), rule(0, number, RETURN, 0)), told)
                    self.assertEqual(ask_last(begin(values, 1), rule(0, 0, RETURN, number)), told)

    def test_kind(self):
        for kind, told in ((0, 0), (1, 0), (2, 0), (3, -22), (4, -22), (LARGEST, -22)):
            with self.subTest(kind=kind):
                self.assertEqual(self.told(0, 0, kind, 0, 0, 0), [told])

    def test_to_of_kind_0(self):
        for to, told in ((0, 0), (4, 0), (5, -22), (LARGEST, -22)):
            with self.subTest(to=to):
                self.assertEqual(self.told(0, 0, GO, 0, to, 0), [told])

    def test_to_of_kind_1(self):
        for to, told in ((0, 0), (1, 0), (2, -22), (4, -22), (LARGEST, -22)):
            with self.subTest(to=to):
                self.assertEqual(self.told(0, 0, CALL, 0, to, 0), [told])

    def test_next_of_kind_1(self):
        for goes_on, told in ((0, 0), (4, 0), (5, -22), (LARGEST, -22)):
            with self.subTest(goes_on=goes_on):
                self.assertEqual(self.told(0, 0, CALL, 0, 1, goes_on), [told])

    def test_to_and_next_where_they_do_not_matter(self):
        for number in (0, 4, 5, 32, 64, LARGEST):
            with self.subTest(number=number):
                self.assertEqual(self.told(0, 0, GO, 0, 4, number), [0])
                self.assertEqual(self.told(0, 0, RETURN, 0, number, 0), [0])
                self.assertEqual(self.told(0, 0, RETURN, 0, 0, number), [0])
                self.assertEqual(self.told(0, 0, RETURN, 0, number, number), [0])

    def test_they_do_not_matter_for_what_it_does_either(self):
        ahead = (begin(2, 3), function(0), rule(0, ANY, GO, ANY, 2, LARGEST),
                 rule(2, ANY, RETURN, 1, LARGEST, LARGEST))
        self.assertEqual(ask_last(*ahead, back(0, 0, 1)), [0, 2])
        self.assertEqual(ask_last(*ahead, back(0, 0, 0)), [-6])

    def test_64th_and_65th(self):
        rows = ask(begin(1, 2), *[rule(0, ANY, GO, ANY, 1)] * 66)
        self.assertEqual(rows[1:], [[number] for number in range(64)] + [[-28], [-28]])

    def test_65th_that_is_also_wrong(self):
        ahead = [begin(3, 2), function(0)] + [rule(0, ANY, GO, ANY, 1)] * 64
        wrong = (rule(2, 0, GO, 0, 0), rule(0, 3, GO, 0, 0), rule(0, 0, GO, 3, 0), rule(0, 0, 3, 0, 0),
                 rule(0, 0, GO, 0, 2), rule(0, 0, CALL, 0, 1, 0), rule(0, 0, CALL, 0, 0, 2))
        for one in wrong:
            with self.subTest(one=one):
                self.assertEqual(ask_last(*ahead, one), [-22])
        self.assertEqual(ask_last(*ahead, rule(0, 0, CALL, 0, 0, 1)), [-28])

    def test_refused_takes_no_number(self):
        calls = (begin(1, 1), rule(1, 0, RETURN, 0), rule(0, 0, RETURN, 0), rule(0, 1, RETURN, 0),
                 rule(0, 0, RETURN, 0))
        self.assertEqual(ask(*calls), [[0], [-22], [0], [-22], [1]])

    def test_refused_changes_nothing(self):
        ahead = (begin(2, 2), function(0))
        wrong = (rule(0, ANY, RETURN, 2), rule(0, 3, RETURN, 0), rule(0, ANY, 3, 0),
                 rule(0, ANY, CALL, 0, 1, 0), rule(0, ANY, CALL, 0, 0, 2), rule(0, ANY, GO, 0, 2))
        self.assertEqual(ask_last(*ahead, *wrong, back(0, 0, 0)), [-6])
        full = [rule(0, 0, GO, ANY, 0)] * 64
        self.assertEqual(ask(*ahead, *full, rule(0, ANY, RETURN, 0), back(0, 0, 0))[-2:], [[-28], [-6]])

    def test_the_64th_counts(self):
        ahead = [begin(2, 2), function(0)] + [rule(0, 0, GO, ANY, 0)] * 63
        self.assertEqual(ask(*ahead, rule(0, ANY, RETURN, 1), back(0, 0, 1))[-2:], [[63], [0, 1]])


if __name__ == "__main__":
    unittest.main()
