"""Point 1: rv_start, and what is there behind it."""

import unittest

from reservedtreaty.treaty import answers
from tests.helper import FAR, everything, last, standing, told


class Start(unittest.TestCase):
    def test_ordinary(self):
        self.assertEqual(answers([0, 3, 4]), [1, 0])

    def test_every_size_that_is_allowed(self):
        for n in range(2, 7):
            for m in range(1, 9):
                self.assertEqual(answers([0, n, m]), [1, 0], (n, m))

    def test_sizes_just_beyond_and_far_beyond(self):
        for n in (0, 1, 7, 8, FAR):
            for m in (0, 1, 4, 8, 9, FAR):
                self.assertEqual(answers([0, n, m]), [1, -22], (n, m))
        for n in (2, 4, 6):
            for m in (0, 9, 10, FAR):
                self.assertEqual(answers([0, n, m]), [1, -22], (n, m))

    def test_refused_till_one_is_not(self):
        self.assertEqual(answers([0, 1, 1, 0, 7, 8, 0, 2, 0, 0, 2, 1, 9, 1]),
                         [1, -22, 1, -22, 1, -22, 1, 0, 9, 0, 0, 0, 0, 0, 0, 0, 0, 0])

    def test_just_so_many_states_and_articles_are_there(self):
        for n in range(2, 7):
            for m in range(1, 9):
                start = ("rv_start", n, m)
                self.assertEqual(last(start, ("rv_reserve", n - 1, m - 1, 1)), [0])
                self.assertEqual(last(start, ("rv_reserve", n, m - 1, 1)), [-2])
                self.assertEqual(last(start, ("rv_reserve", n - 1, m, 1)), [-2])

    def test_nothing_is_reserved_or_objected_to_at_first(self):
        self.assertEqual(standing([("rv_start", 6, 8)], 6, 8), ([[0] * 8] * 6, {}))
        self.assertEqual(told(("rv_start", 6, 8), ("rv_whole", 0, 5), ("rv_related", 5, 0), ("rv_objected", 3)),
                         [[0], [8] + [0] * 8, [1], [0, 0]])


class StartInTheMidst(unittest.TestCase):
    before = [("rv_start", 3, 2), ("rv_reserve", 0, 1, 4), ("rv_object", 2, 0, 1, 2)]

    def test_refused_all_stays_as_it_was(self):
        was = standing(self.before, 3, 2)
        self.assertEqual(was, ([[0, 4, 0, 0, 0, 0, 0, 0], [0] * 8, [0] * 8], {(2, 0, 1): 2}))
        for n, m in ((1, 2), (7, 2), (3, 0), (3, 9), (0, 0), (FAR, FAR)):
            calls = self.before + [("rv_start", n, m)]
            self.assertEqual(last(*calls), [-22])
            self.assertEqual(standing(calls, 3, 2), was)
            self.assertEqual(everything(calls, 3, 2), everything(self.before, 3, 2))
            self.assertEqual(last(*calls, ("rv_told", 3)), [-2])
            self.assertEqual(last(*calls, ("rv_between", 0, 1, 2)), [-2])

    def test_anew_with_the_same_numbers(self):
        calls = self.before + [("rv_start", 3, 2)]
        self.assertEqual(last(*calls), [0])
        self.assertEqual(standing(calls, 3, 2), ([[0] * 8] * 3, {}))
        self.assertEqual(everything(calls, 3, 2), everything([("rv_start", 3, 2)], 3, 2))
        self.assertEqual(last(*calls, ("rv_objected", 0)), [0, 0])
        self.assertEqual(last(*calls, ("rv_related", 0, 2)), [1])

    def test_anew_with_other_numbers(self):
        larger = self.before + [("rv_start", 6, 8)]
        self.assertEqual(last(*larger, ("rv_reserve", 5, 7, 1)), [0])
        smaller = self.before + [("rv_start", 2, 1)]
        self.assertEqual(last(*smaller, ("rv_told", 2)), [-2])
        self.assertEqual(last(*smaller, ("rv_reserve", 0, 1, 1)), [-2])
        self.assertEqual(last(*smaller, ("rv_start", 3, 2), ("rv_told", 0)), [0] * 9)


if __name__ == "__main__":
    unittest.main()
