"""Point 3, of one state or two: rv_between, rv_whole, rv_related, rv_told, rv_objected, and what holds of them."""

import unittest

from reservedtreaty.treaty import answers
from tests.helper import FAR, everything, last, told

# Behind this the treaty is not between 0 and 3; 1 objects to one reservation of 0.
MIXED = [
    ("rv_start", 4, 5),
    ("rv_reserve", 0, 0, 2),
    ("rv_reserve", 0, 1, 3),
    ("rv_reserve", 0, 2, 4),
    ("rv_reserve", 1, 2, 4),
    ("rv_reserve", 1, 3, 2),
    ("rv_reserve", 0, 3, 3),
    ("rv_object", 1, 0, 0, 1),
    ("rv_object", 3, 0, 1, 2),
    ("rv_object", 3, 1, 3, 1),
]


def expected(kind, other, to_kind, to_other):
    """The words of "Between two" as a row of cases, for a treaty of one article."""
    if 2 in (to_kind, to_other):
        return 9
    if 1 in (to_kind, to_other):
        return 1
    kinds = sorted({kind, other} - {0})
    return {0: 0, 1: sum(kinds), 2: 1}[len(kinds)]


def all_cases():
    """Each two reservations with each two objections that there can be to them."""
    return [
        (kind, other, to_kind, to_other)
        for kind in range(5)
        for other in range(5)
        for to_kind in range(3 if kind else 1)
        for to_other in range(3 if other else 1)
    ]


def pair(first, second, a, case):
    """The calls which bring this case about between two states at article a."""
    kind, other, to_kind, to_other = case
    calls = []
    if kind:
        calls.append(("rv_reserve", first, a, kind))
    if other:
        calls.append(("rv_reserve", second, a, other))
    if to_kind:
        calls.append(("rv_object", second, first, a, to_kind))
    if to_other:
        calls.append(("rv_object", first, second, a, to_other))
    return calls


class Questions(unittest.TestCase):
    def assert_refused(self, call, refusal):
        calls = MIXED + [call]
        self.assertEqual(last(*calls), [refusal], call)
        self.assertEqual(everything(calls, 4, 5), everything(MIXED, 4, 5), call)

    def assert_refusals_of_two(self, name, *more):
        for i, j in ((4, 0), (0, 4), (FAR, 0), (0, FAR)):
            self.assert_refused((name, i, j, *more), -2)
        for i in range(4):
            self.assert_refused((name, i, i, *more), -22)
        # A state that is not there is told ahead of two that are one.
        self.assert_refused((name, 4, 4, *more), -2)
        self.assert_refused((name, FAR, FAR, *more), -2)


class Between(Questions):
    def test_ordinary(self):
        self.assertEqual(answers([0, 2, 1, 6, 0, 1, 0, 1, 1, 0, 3, 6, 0, 1, 0]), [1, 0, 1, 0, 1, 0, 1, 3])

    def test_each_way_that_the_document_names(self):
        self.assertEqual(last(*MIXED, ("rv_between", 0, 3, 4)), [9])
        self.assertEqual(last(*MIXED, ("rv_between", 0, 1, 0)), [1])
        self.assertEqual(last(*MIXED, ("rv_between", 0, 1, 4)), [0])
        self.assertEqual(last(*MIXED, ("rv_between", 0, 1, 1)), [3])
        self.assertEqual(last(*MIXED, ("rv_between", 0, 1, 2)), [4])
        self.assertEqual(last(*MIXED, ("rv_between", 0, 1, 3)), [1])
        # Only 1 objects to it, so between 0 and 2 the reservation works.
        self.assertEqual(last(*MIXED, ("rv_between", 0, 2, 0)), [2])

    def test_every_case_the_same_for_both(self):
        for case in all_cases():
            calls = [("rv_start", 2, 1)] + pair(0, 1, 0, case)
            rows = told(*calls, ("rv_between", 0, 1, 0), ("rv_between", 1, 0, 0))
            self.assertEqual(rows[-2:], [[expected(*case)]] * 2, case)

    def test_every_case_at_the_last_of_many(self):
        for case in all_cases():
            calls = [("rv_start", 6, 8)] + pair(5, 2, 7, case)
            rows = told(*calls, ("rv_between", 2, 5, 7), ("rv_between", 5, 2, 7), ("rv_between", 5, 2, 0))
            self.assertEqual(rows[-3:-1], [[expected(*case)]] * 2, case)
            self.assertEqual(rows[-1], [9 if 2 in case[2:] else 0], case)

    def test_no_third_state_matters(self):
        third = [("rv_reserve", 2, 0, 1), ("rv_object", 0, 2, 0, 2), ("rv_object", 1, 2, 0, 1)]
        for case in all_cases():
            calls = [("rv_start", 3, 1)] + pair(0, 1, 0, case) + third
            if case[0]:
                calls.append(("rv_object", 2, 0, 0, 2))
            if case[1]:
                calls.append(("rv_object", 2, 1, 0, 1))
            self.assertEqual(last(*calls, ("rv_between", 0, 1, 0)), [expected(*case)], case)

    def test_refusals(self):
        for a in range(5):
            self.assert_refusals_of_two("rv_between", a)
        for a in (5, 8, FAR):
            self.assert_refused(("rv_between", 0, 1, a), -2)
            self.assert_refused(("rv_between", 1, 1, a), -2)


class Whole(Questions):
    def test_ordinary(self):
        self.assertEqual(answers([0, 2, 3, 1, 0, 1, 4, 7, 1, 0]), [1, 0, 1, 0, 9, 2, 0, 4, 0, 0, 0, 0, 0, 0])

    def test_rows(self):
        self.assertEqual(last(*MIXED, ("rv_whole", 0, 1)), [1, 1, 3, 4, 1, 0, 0, 0, 0])
        self.assertEqual(last(*MIXED, ("rv_whole", 0, 2)), [1, 2, 3, 4, 3, 0, 0, 0, 0])
        self.assertEqual(last(*MIXED, ("rv_whole", 1, 3)), [3, 0, 0, 4, 1, 0, 0, 0, 0])
        self.assertEqual(last(*MIXED, ("rv_whole", 2, 3)), [5, 0, 0, 0, 0, 0, 0, 0, 0])

    def test_no_treaty_is_told_of_each_article_but_not_behind_the_last(self):
        self.assertEqual(last(*MIXED, ("rv_whole", 0, 3)), [0, 9, 9, 9, 9, 9, 0, 0, 0])
        self.assertEqual(last(*MIXED, ("rv_whole", 3, 0)), [0, 9, 9, 9, 9, 9, 0, 0, 0])

    def test_one_article_and_eight(self):
        self.assertEqual(last(("rv_start", 2, 1), ("rv_whole", 0, 1)), [1] + [0] * 8)
        eight = [("rv_start", 2, 8)] + [("rv_reserve", 0, a, 1 + a % 4) for a in range(8)]
        self.assertEqual(last(*eight, ("rv_whole", 0, 1)), [0, 1, 2, 3, 4, 1, 2, 3, 4])

    def test_the_same_as_article_by_article(self):
        for i in range(4):
            for j in range(4):
                if i != j:
                    row = [last(*MIXED, ("rv_between", i, j, a))[0] for a in range(5)]
                    self.assertEqual(last(*MIXED, ("rv_whole", i, j)), [row.count(0)] + row + [0] * 3)

    def test_refusals(self):
        self.assert_refusals_of_two("rv_whole")


class Related(Questions):
    def test_ordinary(self):
        self.assertEqual(answers([0, 2, 1, 8, 0, 1, 1, 0, 0, 1, 3, 1, 0, 0, 2, 8, 0, 1, 8, 1, 0]),
                         [1, 0, 1, 1, 1, 0, 1, 0, 1, 0, 1, 0])

    def test_each_two(self):
        for i in range(4):
            for j in range(4):
                if i != j:
                    self.assertEqual(last(*MIXED, ("rv_related", i, j)), [0 if {i, j} == {0, 3} else 1])

    def test_between_them_again_when_nothing_is_objected_to_wholly(self):
        for change in (("rv_accept", 3, 0, 1), ("rv_accept_all", 0), ("rv_withdraw", 0, 1),
                       ("rv_reserve", 0, 1, 1), ("rv_object", 3, 0, 1, 1)):
            self.assertEqual(last(*MIXED, change, ("rv_related", 0, 3)), [1], change)

    def test_one_of_two_is_enough(self):
        both = MIXED + [("rv_object", 3, 0, 2, 2)]
        self.assertEqual(last(*both, ("rv_accept", 3, 0, 1), ("rv_related", 0, 3)), [0])

    def test_refusals(self):
        self.assert_refusals_of_two("rv_related")


class Told(Questions):
    def test_ordinary(self):
        self.assertEqual(answers([0, 2, 2, 1, 1, 0, 3, 9, 1, 9, 0]),
                         [1, 0, 1, 0, 9, 1, 3, 0, 0, 0, 0, 0, 0, 0, 9, 0, 0, 0, 0, 0, 0, 0, 0, 0])

    def test_rows(self):
        self.assertEqual(last(*MIXED, ("rv_told", 0)), [4, 2, 3, 4, 3, 0, 0, 0, 0])
        self.assertEqual(last(*MIXED, ("rv_told", 1)), [2, 0, 0, 4, 2, 0, 0, 0, 0])
        self.assertEqual(last(*MIXED, ("rv_told", 3)), [0] * 9)

    def test_one_article_and_eight(self):
        self.assertEqual(last(("rv_start", 2, 1), ("rv_reserve", 1, 0, 4), ("rv_told", 1)), [1, 4] + [0] * 7)
        eight = [("rv_start", 6, 8)] + [("rv_reserve", 5, a, 4 - a % 4) for a in range(8)]
        self.assertEqual(last(*eight, ("rv_told", 5)), [8, 4, 3, 2, 1, 4, 3, 2, 1])

    def test_refusals(self):
        for i in (4, 5, FAR):
            self.assert_refused(("rv_told", i), -2)


class Objected(Questions):
    def test_ordinary(self):
        self.assertEqual(answers([0, 2, 1, 1, 0, 0, 1, 3, 1, 0, 0, 1, 10, 0, 10, 1]),
                         [1, 0, 1, 0, 1, 0, 2, 1, 0, 2, 0, 1])

    def test_to_its_reservations_first_then_its_own(self):
        self.assertEqual(last(*MIXED, ("rv_objected", 0)), [2, 0])
        self.assertEqual(last(*MIXED, ("rv_objected", 1)), [1, 1])
        self.assertEqual(last(*MIXED, ("rv_objected", 2)), [0, 0])
        self.assertEqual(last(*MIXED, ("rv_objected", 3)), [0, 2])

    def test_another_objection_in_its_place_is_not_one_more(self):
        self.assertEqual(last(*MIXED, ("rv_object", 3, 0, 1, 1), ("rv_objected", 3)), [0, 2])

    def test_refusals(self):
        for i in (4, 5, FAR):
            self.assert_refused(("rv_objected", i), -2)


class WhatHolds(unittest.TestCase):
    def test_silence_accepts(self):
        for k in range(1, 5):
            calls = [("rv_start", 3, 1), ("rv_reserve", 1, 0, k)]
            for i, j in ((0, 1), (1, 0), (1, 2), (2, 1)):
                self.assertEqual(last(*calls, ("rv_between", i, j, 0)), [k])
            self.assertEqual(last(*calls, ("rv_between", 0, 2, 0)), [0])

    def test_withdrawn_nothing_is_less_so(self):
        for i, a in ((0, 0), (0, 1), (0, 2), (0, 3), (1, 2), (1, 3)):
            for first in range(4):
                for second in range(first):
                    before = last(*MIXED, ("rv_whole", first, second))
                    behind = last(*MIXED, ("rv_withdraw", i, a), ("rv_whole", first, second))
                    for was, now in zip(before[1:], behind[1:]):
                        self.assertTrue(was != 0 or now == 0)


if __name__ == "__main__":
    unittest.main()
