"""Promise 2: function."""

import unittest

from reference import ANY, CALL, LARGEST, RETURN, ask, ask_last, back, begin, function, rule


class FunctionTest(unittest.TestCase):
    def test_numbered_from_0_as_they_come(self):
        calls = [begin(1, 5)] + [function(point) for point in (4, 0, 4, 2)]
        self.assertEqual(ask(*calls), [[0], [0], [1], [2], [3]])

    def test_last_point_and_first_that_is_not_there(self):
        for points in (1, 2, 32):
            with self.subTest(points=points):
                calls = (begin(1, points), function(points - 1), function(points), function(LARGEST))
                self.assertEqual(ask(*calls), [[0], [0], [-22], [-22]])

    def test_eighth_and_ninth(self):
        rows = ask(begin(1, 2), *[function(1)] * 10)
        self.assertEqual(rows[1:], [[0], [1], [2], [3], [4], [5], [6], [7], [-28], [-28]])

    def test_ninth_at_a_point_that_is_not_there(self):
        ahead = [begin(1, 2)] + [function(1)] * 8
        self.assertEqual(ask(*ahead, function(2), function(LARGEST), function(0))[9:], [[-22], [-22], [-28]])

    def test_refused_changes_nothing(self):
        self.assertEqual(ask(begin(1, 2), function(2), function(1), function(9), function(0)),
                         [[0], [-22], [0], [-22], [1]])
        ahead = [begin(1, 2), rule(0, ANY, RETURN, ANY)] + [function(1)] * 8
        self.assertEqual(ask(*ahead, function(0), back(7, 0, 0), back(8, 0, 0))[10:], [[-28], [-6], [-2]])

    def test_begins_at_its_point(self):
        ahead = (begin(4, 3), function(2), function(0), function(2),
                 rule(0, ANY, RETURN, 1), rule(2, ANY, RETURN, 3))
        rows = ask(*ahead, back(0, 0, 3), back(0, 0, 1), back(1, 0, 1), back(1, 0, 3), back(2, 0, 3))
        self.assertEqual(rows[6:], [[0, 1], [-6], [0, 1], [-6], [0, 1]])

    def test_one_that_comes_later_can_be_called_from_then_on(self):
        calls = (begin(1, 3), rule(0, ANY, CALL, ANY, 0, 1), function(2), rule(0, ANY, CALL, ANY, 0, 1))
        self.assertEqual(ask(*calls), [[0], [-22], [0], [0]])

    def test_one_that_comes_later_can_be_asked_about(self):
        ahead = (begin(1, 2), rule(1, ANY, RETURN, ANY), function(0))
        self.assertEqual(ask(*ahead, back(1, 0, 0), function(1), back(1, 0, 0))[3:], [[-2], [1], [0, 1]])
        self.assertEqual(ask_last(*ahead, back(0, 0, 0)), [-6])


if __name__ == "__main__":
    unittest.main()
