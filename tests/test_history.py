"""Point 5, and of point 1 what a change is: rv_back, rv_again, rv_state."""

import unittest

from reservedtreaty.treaty import answers
from tests.helper import FAR, everything, last, standing, told

START = ("rv_start", 3, 2)
BACK = ("rv_back",)
AGAIN = ("rv_again",)
STATE = ("rv_state",)

# State 0 has a reservation to both articles, state 1 to the second; there are objections to each.
BUSY = [
    START,
    ("rv_reserve", 0, 0, 1),
    ("rv_reserve", 0, 1, 3),
    ("rv_reserve", 1, 1, 4),
    ("rv_object", 1, 0, 0, 1),
    ("rv_object", 2, 0, 0, 2),
    ("rv_object", 1, 0, 1, 2),
    ("rv_object", 2, 1, 1, 1),
]

# Each kind of change that can be made behind it, with how many reservations and objections there are then.
CHANGES = [
    (("rv_reserve", 2, 1, 2), 4, 4),
    (("rv_reserve", 0, 0, 2), 3, 2),
    (("rv_withdraw", 0, 0), 2, 2),
    (("rv_withdraw", 1, 1), 2, 3),
    (("rv_object", 0, 1, 1, 2), 3, 5),
    (("rv_object", 2, 0, 0, 1), 3, 4),
    (("rv_accept", 2, 0, 0), 3, 3),
    (("rv_accept_all", 0), 3, 1),
]

# What is no change: refused changes, questions refused and not, and a start that is refused.
NO_CHANGES = [
    ("rv_reserve", 0, 0, 1), ("rv_reserve", 0, 0, 5), ("rv_reserve", 3, 0, 1), ("rv_withdraw", 2, 0),
    ("rv_withdraw", 0, 2), ("rv_object", 1, 0, 0, 1), ("rv_object", 0, 0, 0, 1), ("rv_object", 0, 2, 0, 1),
    ("rv_object", 1, 0, 2, 1), ("rv_accept", 0, 1, 1), ("rv_accept", FAR, 0, 0), ("rv_accept_all", 2),
    ("rv_accept_all", 3), ("rv_start", 7, 2), ("rv_start", 3, 0), ("rv_between", 0, 1, 1), ("rv_between", 0, 0, 1),
    ("rv_whole", 0, 2), ("rv_whole", 0, 3), ("rv_related", 0, 1), ("rv_related", 1, 1), ("rv_told", 0),
    ("rv_told", 3), ("rv_objected", 0), ("rv_objected", 3), ("rv_everywhere", 0), ("rv_everywhere", 2), ("rv_sum",),
    ("rv_club", 1), ("rv_club", 2), ("rv_friends",), ("rv_gain", 0, 0), ("rv_gain", 2, 0), ("rv_gain", 0, 2),
    ("rv_best",), ("rv_alike", 0, 1), ("rv_alike", 0, 0), ("rv_alike", 3, 0), ("rv_texts",), ("rv_state",),
]


def many(count):
    """A start and so many changes: each gives the one reservation there is another kind."""
    return [START] + [("rv_reserve", 0, 0, 1 + turn % 4) for turn in range(count)]


def kind_behind(count):
    return 0 if count == 0 else 1 + (count - 1) % 4


class History(unittest.TestCase):
    def assert_state(self, calls, reservations, objections, backs, agains):
        self.assertEqual(last(*calls, STATE), [reservations, 3, 2, objections, backs, agains])


class BackAndAgain(History):
    def test_ordinary(self):
        self.assertEqual(answers([0, 2, 1, 1, 0, 0, 3, 1, 1, 0, 2, 19, 19, 19, 20, 20, 20]),
                         [1, 0, 1, 0, 1, 0, 1, 1, 1, 0, 1, -2, 1, 1, 1, 0, 1, -2])

    def test_each_kind_of_change(self):
        for change, reservations, objections in CHANGES:
            changed = BUSY + [change]
            back = changed + [BACK]
            again = back + [AGAIN]
            self.assert_state(changed, reservations, objections, 8, 0)
            self.assertEqual(last(*back), [7])
            self.assertEqual(standing(back, 3, 2), standing(BUSY, 3, 2), change)
            self.assert_state(back, 3, 4, 7, 1)
            self.assertEqual(last(*again), [0])
            self.assertEqual(everything(again, 3, 2), everything(changed, 3, 2), change)
            self.assert_state(again, reservations, objections, 8, 0)

    def test_all_changes_one_by_one(self):
        calls = BUSY + [("rv_accept_all", 0), ("rv_reserve", 0, 0, 2), ("rv_withdraw", 1, 1)]
        made = len(calls) - 1
        for taken in range(made + 1):
            back = calls + [BACK] * taken
            self.assertEqual(standing(back, 3, 2), standing(calls[:made + 1 - taken], 3, 2), taken)
            self.assertEqual(last(*back, STATE)[4:], [made - taken, taken])
            for done in range(taken + 1):
                again = back + [AGAIN] * done
                self.assertEqual(standing(again, 3, 2), standing(calls[:made + 1 - taken + done], 3, 2))
                self.assertEqual(last(*again, STATE)[4:], [made - taken + done, taken - done])

    def test_how_many_can_still_be(self):
        rows = told(*BUSY, *[BACK] * 8, *[AGAIN] * 8)
        self.assertEqual(rows[8:], [[6], [5], [4], [3], [2], [1], [0], [-2], [6], [5], [4], [3], [2], [1], [0], [-2]])

    def test_there_is_none(self):
        for calls in ([START], BUSY, BUSY + [BACK, AGAIN], BUSY + [BACK, ("rv_reserve", 2, 0, 1)]):
            self.assertEqual(last(*calls, AGAIN), [-2])
            self.assertEqual(everything(calls + [AGAIN], 3, 2), everything(calls, 3, 2))
        for calls in ([START], BUSY + [BACK] * 7, [("rv_start", 6, 8), ("rv_reserve", 0, 0, 1), START]):
            self.assertEqual(last(*calls, BACK), [-2])
            self.assertEqual(everything(calls + [BACK], 3, 2), everything(calls, 3, 2))

    def test_a_change_behind_a_back_leaves_nothing_to_do_again(self):
        for change, reservations, objections in CHANGES:
            calls = BUSY + [("rv_reserve", 2, 0, 1), ("rv_reserve", 2, 0, 2), BACK, BACK, change]
            self.assertEqual(last(*calls, AGAIN), [-2], change)
            self.assert_state(calls, reservations, objections, 8, 0)
            self.assertEqual(everything(calls, 3, 2), everything(BUSY + [change], 3, 2), change)

    def test_the_very_change_that_was_taken_back_is_another_one(self):
        calls = [START, ("rv_reserve", 0, 0, 1), ("rv_reserve", 0, 1, 1), BACK, BACK, ("rv_reserve", 0, 0, 1)]
        self.assertEqual(last(*calls, AGAIN), [-2])
        self.assert_state(calls, 1, 0, 1, 0)

    def test_what_is_no_change_leaves_all_as_it_was(self):
        calls = BUSY + [BACK]
        for call in NO_CHANGES:
            self.assertEqual(everything(calls + [call], 3, 2), everything(calls, 3, 2), call)
        rows = told(*calls, *NO_CHANGES, STATE, AGAIN, STATE, BACK)
        self.assertEqual(rows[-4:], [[3, 3, 2, 3, 6, 1], [0], [3, 3, 2, 4, 7, 0], [6]])

    def test_back_and_again_are_no_changes_themselves(self):
        rows = told(*BUSY, *[BACK, AGAIN] * 30, STATE)
        self.assertEqual(rows[8:], [[6], [0]] * 30 + [[3, 3, 2, 4, 7, 0]])

    def test_a_change_behind_what_was_done_again(self):
        calls = many(3) + [BACK, BACK, AGAIN, ("rv_reserve", 1, 1, 4)]
        self.assert_state(calls, 2, 0, 3, 0)
        self.assertEqual(told(*calls, BACK, ("rv_told", 0), BACK, ("rv_told", 0))[-4:],
                         [[2], [1, 2, 0, 0, 0, 0, 0, 0, 0], [1], [1, 1, 0, 0, 0, 0, 0, 0, 0]])


class Twenty(History):
    def test_up_to_twenty_can_be_taken_back(self):
        for count in (0, 1, 19, 20, 21, 22, 40, 41, 500):
            reach = min(20, count)
            calls = many(count)
            self.assert_state(calls, 1 if count else 0, 0, reach, 0)
            rows = told(*calls, *[BACK] * 21, ("rv_told", 0), STATE)
            self.assertEqual(rows[len(calls):-2], [[left] for left in range(reach - 1, -1, -1)] + [[-2]] * (21 - reach))
            self.assertEqual(rows[-2][1], kind_behind(count - reach), count)
            self.assertEqual(rows[-1][4:], [0, reach], count)

    def test_all_twenty_can_be_done_again(self):
        for count in (20, 21, 33):
            calls = many(count)
            rows = told(*calls, *[BACK] * 20, *[AGAIN] * 21, ("rv_told", 0), STATE)
            self.assertEqual(rows[len(calls) + 20:-2], [[left] for left in range(19, -1, -1)] + [[-2]])
            self.assertEqual(rows[-2][1], kind_behind(count))
            self.assertEqual(rows[-1], [1, 3, 2, 0, 20, 0])
            again = calls + [BACK] * 20 + [AGAIN] * 20
            self.assertEqual(everything(again, 3, 2), everything(calls, 3, 2))

    def test_what_is_out_of_reach_does_not_come_back(self):
        calls = many(25) + [BACK] * 5
        self.assert_state(calls, 1, 0, 15, 5)
        calls += [("rv_reserve", 1, 1, 4)]
        self.assert_state(calls, 2, 0, 16, 0)
        rows = told(*calls, *[BACK] * 17, ("rv_told", 0))
        self.assertEqual(rows[-3:], [[0], [-2], [1, kind_behind(5), 0, 0, 0, 0, 0, 0, 0]])

    def test_twenty_again_behind_a_change(self):
        calls = many(25) + [BACK] * 20 + [("rv_reserve", 0, 0, 1 + (turn + 1) % 4) for turn in range(21)]
        self.assert_state(calls, 1, 0, 20, 0)
        rows = told(*calls, *[BACK] * 21, ("rv_told", 0))
        self.assertEqual(rows[-3:], [[0], [-2], [1, 2, 0, 0, 0, 0, 0, 0, 0]])

    def test_refused_calls_take_no_place(self):
        calls = many(20) + [("rv_reserve", 0, 0, kind_behind(20)), ("rv_withdraw", 1, 0), ("rv_sum",)] * 10
        rows = told(*calls, *[BACK] * 20, STATE)
        self.assertEqual(rows[-2:], [[0], [0, 3, 2, 0, 0, 20]])

    def test_accepting_all_is_one_change(self):
        calls = BUSY + [("rv_accept_all", 0)]
        self.assert_state(calls, 3, 1, 8, 0)
        self.assertEqual(told(*calls, BACK, STATE)[-2:], [[7], [3, 3, 2, 4, 7, 1]])

    def test_the_most_objections_back_with_their_reservation(self):
        calls = [("rv_start", 6, 8), ("rv_reserve", 5, 7, 1)] + [("rv_object", j, 5, 7, 1 + j % 2) for j in range(5)]
        for change in (("rv_withdraw", 5, 7), ("rv_reserve", 5, 7, 2), ("rv_accept_all", 5)):
            back = calls + [change, BACK]
            self.assertEqual(standing(back, 6, 8), standing(calls, 6, 8))
            self.assertEqual(last(*back, STATE), [1, 6, 8, 5, 6, 1])
            self.assertEqual(standing(back + [AGAIN], 6, 8), standing(calls + [change], 6, 8))


class StartInTheMidst(History):
    def test_one_that_answers_0_leaves_no_changes(self):
        for before in (BUSY, BUSY + [BACK], BUSY + [BACK] * 7, many(30)):
            for n, m in ((3, 2), (2, 1), (6, 8)):
                rows = told(*before, ("rv_start", n, m), STATE, BACK, AGAIN, STATE)
                self.assertEqual(rows[-5:], [[0], [0, n, m, 0, 0, 0], [-2], [-2], [0, n, m, 0, 0, 0]])

    def test_it_is_no_change_that_could_be_taken_back(self):
        calls = BUSY + [START, ("rv_reserve", 0, 0, 2)]
        self.assertEqual(told(*calls, BACK, BACK, STATE)[-3:], [[0], [-2], [0, 3, 2, 0, 0, 1]])

    def test_one_that_is_refused_leaves_all_as_it_was(self):
        for before in (BUSY, BUSY + [BACK, BACK], many(30)):
            for n, m in ((1, 2), (7, 2), (3, 0), (3, 9), (FAR, FAR)):
                calls = before + [("rv_start", n, m)]
                self.assertEqual(last(*calls), [-22])
                self.assertEqual(everything(calls, 3, 2), everything(before, 3, 2))


class State(History):
    def test_ordinary(self):
        self.assertEqual(answers([0, 4, 5, 1, 0, 0, 3, 1, 0, 1, 3, 3, 1, 0, 0, 2, 1, 3, 4, 1, 19, 21]),
                         [1, 0, 1, 0, 1, 0, 1, 0, 1, 0, 1, 3, 6, 2, 4, 5, 1, 3, 1])

    def test_behind_a_start(self):
        for n in range(2, 7):
            for m in range(1, 9):
                self.assertEqual(last(("rv_start", n, m), STATE), [0, n, m, 0, 0, 0])

    def test_behind_each_change(self):
        rows = told(*[call for change in BUSY for call in (change, STATE)])
        self.assertEqual([row[0] for row in rows[1::2]], [0, 1, 2, 3, 3, 3, 3, 3])
        self.assertEqual([row[3] for row in rows[1::2]], [0, 0, 0, 0, 1, 2, 3, 4])
        self.assertEqual([row[4:] for row in rows[1::2]], [[made, 0] for made in range(8)])

    def test_all_there_can_be(self):
        calls = [("rv_start", 6, 8)] + [("rv_reserve", i, a, 1) for i in range(6) for a in range(8)]
        calls += [("rv_object", j, i, a, 1) for i in range(6) for a in range(8) for j in range(6) if i != j]
        self.assertEqual(last(*calls, STATE), [48, 6, 8, 240, 20, 0])

    def test_another_in_its_place_is_not_one_more(self):
        calls = [START, ("rv_reserve", 0, 0, 1), ("rv_object", 1, 0, 0, 1), ("rv_object", 1, 0, 0, 2)]
        self.assert_state(calls, 1, 1, 3, 0)
        self.assert_state(calls + [("rv_reserve", 0, 0, 2)], 1, 0, 4, 0)

    def test_it_is_no_change(self):
        self.assertEqual(told(*BUSY, BACK, STATE, STATE, AGAIN, STATE)[-5:],
                         [[6], [3, 3, 2, 3, 6, 1], [3, 3, 2, 3, 6, 1], [0], [3, 3, 2, 4, 7, 0]])


if __name__ == "__main__":
    unittest.main()
