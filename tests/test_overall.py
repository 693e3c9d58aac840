"""Point 3, over all states: rv_everywhere, rv_sum, rv_alike, rv_texts."""

import unittest

from reservedtreaty.treaty import answers
from tests.helper import FAR, everything, last, told

START = ("rv_start", 3, 2)
RESERVED = [START, ("rv_reserve", 0, 1, 4)]

# Of 4 states and 5 articles: the treaty is not between 0 and 3, and 1 and 3 each object to one reservation.
MIXED = [
    ("rv_start", 4, 5),
    ("rv_reserve", 0, 0, 2),
    ("rv_reserve", 0, 1, 3),
    ("rv_reserve", 0, 2, 4),
    ("rv_reserve", 1, 2, 4),
    ("rv_reserve", 1, 3, 2),
    ("rv_reserve", 0, 3, 3),
    ("rv_object", 1, 0, 0, 1),
    ("rv_object", 3, 0, 1, 2),
    ("rv_object", 3, 1, 3, 1),
    ("rv_back",),
    ("rv_again",),
    ("rv_reserve", 2, 4, 1),
    ("rv_back",),
]


class Asked(unittest.TestCase):
    def assert_refused(self, call, refusal):
        calls = MIXED + [call]
        self.assertEqual(last(*calls), [refusal], call)
        self.assertEqual(everything(calls, 4, 5), everything(MIXED, 4, 5), call)

    def assert_changes_nothing(self, *asked):
        self.assertEqual(everything(MIXED + list(asked), 4, 5), everything(MIXED, 4, 5))


class Everywhere(Asked):
    def test_ordinary(self):
        self.assertEqual(answers([0, 3, 2, 1, 0, 1, 4, 11, 0, 11, 1]), [1, 0, 1, 0, 2, 1, 3, 2, 0, 1])

    def test_no_reservation_at_all(self):
        for n, pairs in ((2, 1), (3, 3), (4, 6), (5, 10), (6, 15)):
            for m in (1, 8):
                for a in (0, m - 1):
                    self.assertEqual(last(("rv_start", n, m), ("rv_everywhere", a)), [1, pairs], (n, m))

    def test_some_reservations(self):
        self.assertEqual([last(*MIXED, ("rv_everywhere", a)) for a in range(5)],
                         [[0, 3], [0, 3], [0, 1], [0, 1], [0, 5]])
        self.assertEqual(last(("rv_start", 2, 1), ("rv_reserve", 1, 0, 2), ("rv_everywhere", 0)), [0, 0])
        large = [("rv_start", 6, 8), ("rv_reserve", 5, 7, 1)]
        self.assertEqual(last(*large, ("rv_everywhere", 7)), [0, 10])
        self.assertEqual(last(*large, ("rv_everywhere", 6)), [1, 15])

    def test_an_objection(self):
        objected = RESERVED + [("rv_object", 1, 0, 1, 1)]
        self.assertEqual(last(*objected, ("rv_everywhere", 1)), [0, 1])
        self.assertEqual(last(*objected, ("rv_everywhere", 0)), [1, 3])

    def test_a_treaty_that_is_not_between_two(self):
        wholly = RESERVED + [("rv_object", 1, 0, 1, 2)]
        self.assertEqual(last(*wholly, ("rv_everywhere", 0)), [0, 2])
        self.assertEqual(last(*wholly, ("rv_everywhere", 1)), [0, 1])
        self.assertEqual(last(*wholly, ("rv_accept", 1, 0, 1), ("rv_everywhere", 0)), [1, 3])

    def test_refusals(self):
        for a in (5, 6, 8, FAR):
            self.assert_refused(("rv_everywhere", a), -2)

    def test_it_is_no_change(self):
        self.assert_changes_nothing(("rv_everywhere", 0), ("rv_everywhere", 4))


class Sum(Asked):
    def test_ordinary(self):
        self.assertEqual(answers([0, 3, 2, 12, 1, 0, 1, 4, 12]), [1, 0, 2, 6, 6, 1, 0, 2, 4, 6])

    def test_no_reservation_at_all(self):
        for n, pairs in ((2, 1), (3, 3), (4, 6), (5, 10), (6, 15)):
            for m in (1, 2, 8):
                self.assertEqual(last(("rv_start", n, m), ("rv_sum",)), [pairs * m, pairs * m], (n, m))

    def test_some_reservations(self):
        self.assertEqual(last(*MIXED, ("rv_sum",)), [13, 30])
        self.assertEqual(last(("rv_start", 2, 1), ("rv_reserve", 1, 0, 2), ("rv_sum",)), [0, 1])
        self.assertEqual(last(("rv_start", 6, 8), ("rv_reserve", 5, 7, 1), ("rv_sum",)), [115, 120])

    def test_an_objection(self):
        self.assertEqual(last(*RESERVED, ("rv_object", 1, 0, 1, 1), ("rv_sum",)), [4, 6])

    def test_a_treaty_that_is_not_between_two(self):
        self.assertEqual(last(*RESERVED, ("rv_object", 1, 0, 1, 2), ("rv_sum",)), [3, 6])
        self.assertEqual(last(("rv_start", 2, 8), ("rv_reserve", 0, 3, 1), ("rv_object", 1, 0, 3, 2), ("rv_sum",)),
                         [0, 8])

    def test_the_same_as_article_by_article_and_two_by_two(self):
        written = [last(*MIXED, ("rv_everywhere", a))[1] for a in range(5)]
        self.assertEqual(last(*MIXED, ("rv_sum",))[0], sum(written))
        whole = [last(*MIXED, ("rv_whole", i, j))[0] for i in range(4) for j in range(i)]
        self.assertEqual(last(*MIXED, ("rv_sum",))[0], sum(whole))

    def test_it_is_no_change(self):
        self.assert_changes_nothing(("rv_sum",))


class Alike(Asked):
    def test_ordinary(self):
        self.assertEqual(answers([0, 3, 1, 17, 0, 1, 1, 0, 0, 3, 17, 0, 1, 17, 0, 2, 17, 1, 2]),
                         [1, 0, 1, 1, 1, 0, 1, 0, 1, 0, 1, 1])

    def test_two_states_alone(self):
        calls = [("rv_start", 2, 2)]
        for change in (("rv_reserve", 0, 0, 2), ("rv_reserve", 1, 1, 3), ("rv_object", 0, 1, 1, 1),
                       ("rv_object", 1, 0, 0, 2)):
            calls.append(change)
            self.assertEqual(told(*calls, ("rv_alike", 0, 1), ("rv_alike", 1, 0))[-2:], [[1], [1]], change)

    def test_two_that_differ_towards_one_third_state_in_one_article(self):
        calls = [("rv_start", 6, 8)]
        calls += [("rv_reserve", i, a, 2) for i in (0, 1) for a in range(8)]
        self.assertEqual(last(*calls, ("rv_alike", 0, 1)), [1])
        calls.append(("rv_object", 5, 0, 7, 1))
        self.assertEqual(told(*calls, ("rv_alike", 0, 1), ("rv_alike", 1, 0))[-2:], [[0], [0]])
        self.assertEqual(last(*calls, ("rv_object", 5, 1, 7, 1), ("rv_alike", 0, 1)), [1])
        self.assertEqual(last(*calls, ("rv_accept", 5, 0, 7), ("rv_alike", 0, 1)), [1])

    def test_a_treaty_with_one_of_them_alone(self):
        calls = [START, ("rv_reserve", 0, 0, 2), ("rv_reserve", 1, 0, 2), ("rv_object", 2, 0, 0, 2)]
        self.assertEqual(last(*calls, ("rv_alike", 0, 1)), [0])
        self.assertEqual(last(*calls, ("rv_object", 2, 1, 0, 2), ("rv_alike", 0, 1)), [1])

    def test_two_between_whom_themselves_things_differ(self):
        calls = [START, ("rv_reserve", 0, 0, 2), ("rv_reserve", 1, 0, 2), ("rv_object", 0, 1, 0, 2)]
        self.assertEqual(last(*calls, ("rv_related", 0, 1)), [0])
        self.assertEqual(last(*calls, ("rv_alike", 0, 1)), [1])

    def test_the_same_that_comes_about_differently(self):
        calls = [START, ("rv_reserve", 0, 0, 1), ("rv_reserve", 1, 0, 3)]
        self.assertEqual(last(*calls, ("rv_alike", 0, 1)), [0])
        self.assertEqual(last(*calls, ("rv_object", 2, 1, 0, 1), ("rv_alike", 0, 1)), [1])

    def test_refusals(self):
        for i, j in ((4, 0), (0, 4), (FAR, 0), (0, FAR), (4, 4), (FAR, FAR)):
            self.assert_refused(("rv_alike", i, j), -2)
        for i in range(4):
            self.assert_refused(("rv_alike", i, i), -22)

    def test_it_is_no_change(self):
        self.assert_changes_nothing(("rv_alike", 0, 1), ("rv_alike", 3, 2))


class Texts(Asked):
    def test_ordinary(self):
        self.assertEqual(answers([0, 3, 1, 18, 1, 0, 0, 3, 18]), [1, 0, 1, 1, 1, 0, 1, 2])

    def test_no_pair_between_whom_the_treaty_is(self):
        self.assertEqual(last(("rv_start", 2, 1), ("rv_reserve", 0, 0, 1), ("rv_object", 1, 0, 0, 2), ("rv_texts",)),
                         [0])
        calls = [("rv_start", 6, 8)] + [("rv_reserve", i, i, 1) for i in range(5)]
        calls += [("rv_object", j, i, i, 2) for j in range(6) for i in range(j)]
        self.assertEqual(last(*calls, ("rv_texts",)), [0])
        self.assertEqual(last(*calls, ("rv_accept", 5, 4, 4), ("rv_texts",)), [1])

    def test_all_pairs_of_one_row(self):
        for n in (2, 6):
            for m in (1, 8):
                start = ("rv_start", n, m)
                self.assertEqual(last(start, ("rv_texts",)), [1])
                same = [("rv_reserve", i, m - 1, 3) for i in range(n)]
                self.assertEqual(last(start, *same, ("rv_texts",)), [1])

    def test_several_different_rows(self):
        self.assertEqual(last(*MIXED, ("rv_texts",)), [5])
        self.assertEqual(last(*RESERVED, ("rv_texts",)), [2])

    def test_as_many_rows_as_pairs(self):
        calls = [("rv_start", 6, 8)] + [("rv_reserve", i, i, 1) for i in range(6)]
        self.assertEqual(last(*calls, ("rv_texts",)), [15])

    def test_rows_that_differ_in_the_last_article_alone(self):
        calls = [("rv_start", 3, 8)] + [("rv_reserve", i, a, 2) for i in range(3) for a in range(8)]
        self.assertEqual(last(*calls, ("rv_texts",)), [1])
        self.assertEqual(last(*calls, ("rv_object", 0, 1, 7, 1), ("rv_texts",)), [2])

    def test_the_same_row_that_comes_about_differently(self):
        calls = [("rv_start", 3, 1), ("rv_reserve", 0, 0, 2), ("rv_object", 1, 0, 0, 1)]
        self.assertEqual(last(*calls, ("rv_texts",)), [3])
        self.assertEqual(last(*calls, ("rv_object", 2, 0, 0, 1), ("rv_texts",)), [2])

    def test_a_pair_without_the_treaty_has_no_row(self):
        calls = [("rv_start", 3, 1), ("rv_reserve", 0, 0, 2), ("rv_object", 1, 0, 0, 2)]
        self.assertEqual(last(*calls, ("rv_texts",)), [2])
        self.assertEqual(last(*calls, ("rv_object", 2, 0, 0, 2), ("rv_texts",)), [1])

    def test_it_is_no_change(self):
        self.assert_changes_nothing(("rv_texts",))


if __name__ == "__main__":
    unittest.main()
