"""Promise 1: begin."""

import unittest

from reference import ANY, LARGEST, RETURN, ask, ask_last, back, begin, function, rule


class BeginTest(unittest.TestCase):
    def test_values(self):
        for values, told in ((0, -22), (1, 0), (2, 0), (3, 0), (4, 0), (5, -22), (LARGEST, -22)):
            with self.subTest(values=values):
                self.assertEqual(ask(begin(values, 7)), [[told]])

    def test_points(self):
        for points, told in ((0, -22), (1, 0), (2, 0), (31, 0), (32, 0), (33, -22), (LARGEST, -22)):
            with self.subTest(points=points):
                self.assertEqual(ask(begin(3, points)), [[told]])

    def test_both_at_their_edges(self):
        calls = (begin(1, 1), begin(4, 32), begin(0, 0), begin(5, 33), begin(LARGEST, LARGEST), begin(0, 33))
        self.assertEqual(ask(*calls), [[0], [0], [-22], [-22], [-22], [-22]])

    def test_refused_till_one_is_answered_0(self):
        calls = (begin(0, 3), begin(3, 0), begin(3, 3), function(2), function(3))
        self.assertEqual(ask(*calls), [[-22], [-22], [0], [0], [-22]])

    def test_there_are_just_so_many_values_and_points(self):
        for values in (1, 2, 3, 4):
            calls = (begin(values, 1), function(0), back(0, values - 1, values - 1), back(0, values, 0))
            self.assertEqual(ask(*calls)[2:], [[-6], [-2]])
        for points in (1, 2, 31, 32):
            self.assertEqual(ask(begin(1, points), function(points - 1), function(points))[1:], [[0], [-22]])

    def test_again_leaves_no_functions(self):
        ahead = [begin(2, 2)] + [function(1)] * 8
        self.assertEqual(ask_last(*ahead, begin(2, 2), back(0, 0, 0)), [-2])
        self.assertEqual(ask_last(*ahead, begin(2, 2), rule(0, ANY, 1, ANY, 0, 0)), [-22])
        self.assertEqual(ask_last(*ahead, begin(2, 2), function(0)), [0])

    def test_again_leaves_no_rules(self):
        ahead = [begin(2, 2), function(1)] + [rule(1, ANY, RETURN, ANY)] * 64
        self.assertEqual(ask_last(*ahead, back(0, 1, 1)), [0, 1])
        self.assertEqual(ask_last(*ahead, begin(2, 2), function(1), back(0, 1, 1)), [-6])
        self.assertEqual(ask_last(*ahead, begin(2, 2), rule(1, ANY, RETURN, ANY)), [0])

    def test_again_after_rules_that_were_not_asked_about(self):
        ahead = (begin(2, 2), function(1), rule(1, ANY, RETURN, ANY))
        self.assertEqual(ask_last(*ahead, begin(2, 2), function(1), back(0, 0, 0)), [-6])

    def test_again_with_other_numbers(self):
        ahead = (begin(4, 32), function(31), begin(2, 3))
        self.assertEqual(ask_last(*ahead, function(3)), [-22])
        self.assertEqual(ask_last(*ahead, rule(0, 2, RETURN, ANY)), [-22])
        self.assertEqual(ask_last(*ahead, function(2), back(0, 2, 0)), [-2])
        self.assertEqual(ask_last(begin(2, 3), begin(4, 32), function(31), rule(31, 3, RETURN, 3)), [0])

    def test_refused_changes_nothing(self):
        ahead = (begin(2, 3), function(2), rule(2, ANY, RETURN, ANY))
        for refused in (begin(0, 3), begin(5, 3), begin(2, 0), begin(2, 33), begin(LARGEST, 1)):
            with self.subTest(refused=refused):
                rows = ask(*ahead, refused, back(0, 1, 1), back(0, 2, 1), function(2), function(3),
                           rule(2, 1, RETURN, 0), rule(2, 2, RETURN, 0))
                self.assertEqual(rows[3:], [[-22], [0, 1], [-2], [1], [-22], [1], [-22]])


if __name__ == "__main__":
    unittest.main()
