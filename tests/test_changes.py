"""Point 2: rv_reserve, rv_withdraw, rv_object, rv_accept, rv_accept_all."""

import unittest

from reservedtreaty.treaty import answers
from tests.helper import FAR, everything, last, standing, told

START = ("rv_start", 3, 2)

# State 0 has a reservation to both articles, state 1 to the second; there are objections to each.
BUSY = [
    START,
    ("rv_reserve", 0, 0, 1),
    ("rv_reserve", 0, 1, 3),
    ("rv_reserve", 1, 1, 4),
    ("rv_object", 1, 0, 0, 1),
    ("rv_object", 2, 0, 0, 2),
    ("rv_object", 1, 0, 1, 2),
    ("rv_object", 2, 1, 1, 1),
]
BUSY_KINDS = [[1, 3, 0, 0, 0, 0, 0, 0], [0, 4, 0, 0, 0, 0, 0, 0], [0] * 8]
BUSY_OBJECTIONS = {(1, 0, 0): 1, (2, 0, 0): 2, (1, 0, 1): 2, (2, 1, 1): 1}


class Changes(unittest.TestCase):
    def assert_refused(self, call, refusal):
        calls = BUSY + [call]
        self.assertEqual(last(*calls), [refusal], call)
        self.assertEqual(standing(calls, 3, 2), (BUSY_KINDS, BUSY_OBJECTIONS), call)
        self.assertEqual(everything(calls, 3, 2), everything(BUSY, 3, 2), call)

    def assert_changed(self, call, answer, kinds, objections):
        calls = BUSY + [call]
        self.assertEqual(last(*calls), [answer], call)
        self.assertEqual(standing(calls, 3, 2), (kinds, objections), call)
        number = sum(kind != 0 for row in kinds for kind in row)
        self.assertEqual(last(*calls, ("rv_state",)), [number, 3, 2, len(objections), 8, 0], call)


def without(*keys):
    return {key: x for key, x in BUSY_OBJECTIONS.items() if key not in keys}


class Busy(unittest.TestCase):
    def test_what_the_busy_session_answers(self):
        self.assertEqual([row[0] for row in told(*BUSY)], [0] * 8)
        self.assertEqual(standing(BUSY, 3, 2), (BUSY_KINDS, BUSY_OBJECTIONS))


class Reserve(Changes):
    def test_ordinary(self):
        self.assertEqual(answers([0, 2, 1, 1, 1, 0, 3, 1, 1, 0, 2]), [1, 0, 1, 0, 1, 3])

    def test_every_kind_from_every_kind(self):
        for first in range(1, 5):
            for second in range(1, 5):
                rows = told(START, ("rv_reserve", 2, 1, first), ("rv_reserve", 2, 1, second), ("rv_told", 2))
                self.assertEqual(rows[1], [0])
                self.assertEqual(rows[2], [-17 if first == second else first])
                self.assertEqual(rows[3], [1, 0, second, 0, 0, 0, 0, 0, 0])

    def test_made_where_there_was_none(self):
        kinds = [BUSY_KINDS[0], BUSY_KINDS[1], [0, 2, 0, 0, 0, 0, 0, 0]]
        self.assert_changed(("rv_reserve", 2, 1, 2), 0, kinds, BUSY_OBJECTIONS)

    def test_made_anew_takes_all_objections_to_it(self):
        kinds = [[2, 3, 0, 0, 0, 0, 0, 0], BUSY_KINDS[1], BUSY_KINDS[2]]
        self.assert_changed(("rv_reserve", 0, 0, 2), 1, kinds, without((1, 0, 0), (2, 0, 0)))

    def test_refusals(self):
        for i, a in ((3, 0), (0, 2), (3, 2), (FAR, 0), (0, FAR)):
            self.assert_refused(("rv_reserve", i, a, 1), -2)
        for k in (0, 5, 6, FAR):
            self.assert_refused(("rv_reserve", 0, 0, k), -22)
            self.assert_refused(("rv_reserve", 2, 0, k), -22)
        self.assert_refused(("rv_reserve", 0, 0, 1), -17)
        self.assert_refused(("rv_reserve", 0, 1, 3), -17)

    def test_the_first_told_is_answered(self):
        for k in (0, 5, FAR):
            self.assert_refused(("rv_reserve", 3, 0, k), -2)
            self.assert_refused(("rv_reserve", 0, 2, k), -2)


class Withdraw(Changes):
    def test_ordinary(self):
        self.assertEqual(answers([0, 2, 1, 1, 1, 0, 3, 2, 1, 0, 2, 1, 0]), [1, 0, 1, 0, 1, 3, 1, -6])

    def test_every_kind(self):
        for k in range(1, 5):
            self.assertEqual(told(START, ("rv_reserve", 0, 0, k), ("rv_withdraw", 0, 0), ("rv_told", 0))[2:],
                             [[k], [0] * 9])

    def test_takes_all_objections_to_it(self):
        kinds = [[0, 3, 0, 0, 0, 0, 0, 0], BUSY_KINDS[1], BUSY_KINDS[2]]
        self.assert_changed(("rv_withdraw", 0, 0), 1, kinds, without((1, 0, 0), (2, 0, 0)))

    def test_objections_do_not_come_back_with_a_new_reservation(self):
        calls = BUSY + [("rv_withdraw", 0, 0), ("rv_reserve", 0, 0, 1)]
        self.assertEqual(told(*calls)[-2:], [[1], [0]])
        self.assertEqual(standing(calls, 3, 2), (BUSY_KINDS, without((1, 0, 0), (2, 0, 0))))

    def test_objections_of_the_one_that_withdraws_stay(self):
        kinds = [BUSY_KINDS[0], [0] * 8, BUSY_KINDS[2]]
        self.assert_changed(("rv_withdraw", 1, 1), 4, kinds, without((2, 1, 1)))

    def test_refusals(self):
        for i, a in ((3, 0), (0, 2), (3, 2), (FAR, 0), (0, FAR)):
            self.assert_refused(("rv_withdraw", i, a), -2)
        for i, a in ((1, 0), (2, 0), (2, 1)):
            self.assert_refused(("rv_withdraw", i, a), -6)


class Objections(Changes):
    def test_ordinary(self):
        self.assertEqual(answers([0, 2, 1, 1, 0, 0, 2, 3, 1, 0, 0, 1, 3, 1, 0, 0, 2, 3, 1, 0, 0, 1]),
                         [1, 0, 1, 0, 1, 0, 1, 1, 1, 2])

    def test_a_new_one(self):
        self.assert_changed(("rv_object", 0, 1, 1, 2), 0, BUSY_KINDS, {**BUSY_OBJECTIONS, (0, 1, 1): 2})

    def test_another_in_its_place(self):
        self.assert_changed(("rv_object", 2, 0, 0, 1), 2, BUSY_KINDS, {**BUSY_OBJECTIONS, (2, 0, 0): 1})
        self.assert_changed(("rv_object", 1, 0, 0, 2), 1, BUSY_KINDS, {**BUSY_OBJECTIONS, (1, 0, 0): 2})

    def test_refusals(self):
        for j, i, a in ((3, 0, 0), (0, 3, 0), (1, 0, 2), (FAR, 0, 0), (1, FAR, 0), (1, 0, FAR)):
            self.assert_refused(("rv_object", j, i, a, 1), -2)
        self.assert_refused(("rv_object", 0, 0, 0, 1), -22)
        for x in (0, 3, 4, FAR):
            self.assert_refused(("rv_object", 2, 0, 1, x), -22)
        for j, i, a in ((0, 1, 0), (0, 2, 1), (1, 2, 0)):
            self.assert_refused(("rv_object", j, i, a, 1), -6)
            self.assert_refused(("rv_object", j, i, a, 2), -6)
        self.assert_refused(("rv_object", 1, 0, 0, 1), -17)
        self.assert_refused(("rv_object", 2, 0, 0, 2), -17)

    def test_the_first_told_is_answered(self):
        self.assert_refused(("rv_object", 3, 3, 0, 1), -2)
        self.assert_refused(("rv_object", 0, 0, 2, 1), -2)
        self.assert_refused(("rv_object", 1, 0, 2, 0), -2)
        self.assert_refused(("rv_object", 3, 0, 0, 3), -2)
        self.assert_refused(("rv_object", 2, 2, 0, 1), -22)
        self.assert_refused(("rv_object", 0, 2, 0, 0), -22)
        self.assert_refused(("rv_object", 0, 2, 0, 3), -22)


class Accept(Changes):
    def test_ordinary(self):
        self.assertEqual(answers([0, 2, 1, 1, 0, 0, 2, 3, 1, 0, 0, 2, 4, 1, 0, 0, 4, 1, 0, 0]),
                         [1, 0, 1, 0, 1, 0, 1, 2, 1, -6])

    def test_that_one_alone_is_gone(self):
        for key, x in BUSY_OBJECTIONS.items():
            self.assert_changed(("rv_accept", *key), x, BUSY_KINDS, without(key))

    def test_refusals(self):
        for j, i, a in ((3, 0, 0), (0, 3, 0), (1, 0, 2), (3, 3, 2), (FAR, 0, 0), (1, FAR, 0), (1, 0, FAR)):
            self.assert_refused(("rv_accept", j, i, a), -2)
        for j, i, a in ((2, 0, 1), (0, 1, 1), (0, 1, 0), (1, 2, 0)):
            self.assert_refused(("rv_accept", j, i, a), -6)

    def test_a_state_has_no_objection_to_its_own(self):
        self.assert_refused(("rv_accept", 0, 0, 0), -6)
        self.assert_refused(("rv_accept", 2, 2, 1), -6)


class AcceptAll(Changes):
    def test_ordinary(self):
        self.assertEqual(answers([0, 2, 1, 1, 0, 0, 2, 3, 1, 0, 0, 2, 5, 0, 5, 0]), [1, 0, 1, 0, 1, 0, 1, 1, 1, -17])

    def test_all_to_that_state_are_gone(self):
        self.assert_changed(("rv_accept_all", 0), 3, BUSY_KINDS, {(2, 1, 1): 1})
        self.assert_changed(("rv_accept_all", 1), 1, BUSY_KINDS, without((2, 1, 1)))

    def test_the_most_there_can_be(self):
        calls = [("rv_start", 6, 8)]
        for a in range(8):
            calls.append(("rv_reserve", 5, a, 1))
            calls.extend([("rv_object", j, 5, a, 2) for j in range(5)])
        self.assertEqual(told(*calls, ("rv_accept_all", 5), ("rv_objected", 5), ("rv_objected", 0))[-3:],
                         [[40], [0, 0], [0, 0]])

    def test_refusals(self):
        for i in (3, 4, FAR):
            self.assert_refused(("rv_accept_all", i), -2)
        # State 2 has objections, but there are none to it.
        self.assert_refused(("rv_accept_all", 2), -17)

    def test_a_reservation_without_objections(self):
        self.assertEqual(last(START, ("rv_reserve", 0, 0, 1), ("rv_accept_all", 0)), [-17])


if __name__ == "__main__":
    unittest.main()
