"""Point 4: rv_gain, rv_best."""

import unittest

from reservedtreaty.treaty import answers
from tests.helper import FAR, everything, last, told

START = ("rv_start", 3, 2)

BUSY = [
    START,
    ("rv_reserve", 0, 1, 4),
    ("rv_object", 2, 0, 1, 2),
    ("rv_reserve", 1, 0, 1),
    ("rv_object", 0, 1, 0, 1),
    ("rv_withdraw", 1, 0),
    ("rv_back",),
]


class Gains(unittest.TestCase):
    def assert_gains(self, calls, gains, best):
        """What each reservation is told to gain, what rv_sum tells behind its withdrawal, and the best of them."""
        before = last(*calls, ("rv_sum",))[0]
        for (i, a), more in gains.items():
            self.assertEqual(last(*calls, ("rv_gain", i, a)), [more], (i, a))
            self.assertEqual(last(*calls, ("rv_withdraw", i, a), ("rv_sum",))[0], before + more, (i, a))
        self.assertEqual(last(*calls, ("rv_best",)), best)

    def assert_as_it_was(self, calls, call):
        self.assertEqual(everything(calls + [call], 3, 2), everything(calls, 3, 2), call)


class Gain(Gains):
    def test_ordinary(self):
        self.assertEqual(answers([0, 3, 2, 1, 0, 1, 4, 15, 0, 1, 15, 0, 0]), [1, 0, 1, 0, 1, 2, 1, -6])

    def test_as_much_as_there_are_others(self):
        for n in range(2, 7):
            calls = [("rv_start", n, 8), ("rv_reserve", n - 1, 7, 3)]
            self.assert_gains(calls, {(n - 1, 7): n - 1}, [n - 1, n - 1, 7])

    def test_none_where_the_other_has_one_too(self):
        calls = [("rv_start", 2, 1), ("rv_reserve", 0, 0, 2), ("rv_reserve", 1, 0, 3)]
        self.assert_gains(calls, {(0, 0): 0, (1, 0): 0}, [0, 0, 0])

    def test_an_objection_that_goes_with_it(self):
        calls = [("rv_start", 2, 3), ("rv_reserve", 0, 1, 2), ("rv_object", 1, 0, 1, 1)]
        self.assert_gains(calls, {(0, 1): 1}, [1, 0, 1])

    def test_an_objection_wholly_that_goes_with_it(self):
        calls = [("rv_start", 2, 8), ("rv_reserve", 0, 3, 1), ("rv_object", 1, 0, 3, 2)]
        self.assert_gains(calls, {(0, 3): 8}, [8, 0, 3])
        calls.append(("rv_reserve", 0, 5, 2))
        self.assert_gains(calls, {(0, 3): 7, (0, 5): 0}, [7, 0, 3])
        calls.append(("rv_reserve", 1, 6, 2))
        self.assert_gains(calls, {(0, 3): 6, (0, 5): 0, (1, 6): 0}, [6, 0, 3])
        calls.append(("rv_reserve", 1, 3, 1))
        self.assert_gains(calls, {(0, 3): 5, (0, 5): 0, (1, 3): 0}, [5, 0, 3])

    def test_none_while_another_stands_in_the_way(self):
        calls = [("rv_start", 2, 4), ("rv_reserve", 0, 0, 1), ("rv_object", 1, 0, 0, 2), ("rv_reserve", 0, 1, 1)]
        self.assert_gains(calls, {(0, 0): 3, (0, 1): 0}, [3, 0, 0])
        both = calls + [("rv_object", 1, 0, 1, 2)]
        self.assert_gains(both, {(0, 0): 0, (0, 1): 0}, [0, 0, 0])
        other = calls + [("rv_reserve", 1, 2, 1), ("rv_object", 0, 1, 2, 2)]
        self.assert_gains(other, {(0, 0): 0, (0, 1): 0, (1, 2): 0}, [0, 0, 0])

    def test_an_objection_of_the_one_that_withdraws_stays(self):
        calls = [("rv_start", 2, 2), ("rv_reserve", 0, 0, 1), ("rv_reserve", 1, 1, 1), ("rv_object", 0, 1, 1, 2)]
        self.assert_gains(calls, {(0, 0): 0, (1, 1): 1}, [1, 1, 1])
        # Both to the same article: with state 1's reservation state 0's objection goes, but not its reservation.
        same = [("rv_start", 2, 2), ("rv_reserve", 0, 0, 1), ("rv_reserve", 1, 0, 1), ("rv_object", 0, 1, 0, 2)]
        self.assert_gains(same, {(0, 0): 0, (1, 0): 1}, [1, 1, 0])

    def test_each_of_several_others(self):
        calls = [("rv_start", 4, 3), ("rv_reserve", 0, 0, 1), ("rv_object", 1, 0, 0, 2), ("rv_object", 2, 0, 0, 1),
                 ("rv_reserve", 3, 0, 2)]
        # With 1 three articles more, with 2 one, with 3, which has one itself, none.
        self.assert_gains(calls, {(0, 0): 4, (3, 0): 2}, [4, 0, 0])

    def test_refusals(self):
        for i, a in ((3, 0), (0, 2), (3, 2), (FAR, 0), (0, FAR), (FAR, FAR)):
            self.assertEqual(last(*BUSY, ("rv_gain", i, a)), [-2])
            self.assert_as_it_was(BUSY, ("rv_gain", i, a))
        for i, a in ((0, 0), (1, 1), (2, 0), (2, 1)):
            self.assertEqual(last(*BUSY, ("rv_gain", i, a)), [-6])
            self.assert_as_it_was(BUSY, ("rv_gain", i, a))

    def test_asking_changes_nothing_and_is_no_change(self):
        self.assertEqual(last(*BUSY, ("rv_state",)), [2, 3, 2, 2, 4, 1])
        for call in (("rv_gain", 0, 1), ("rv_gain", 1, 0)):
            self.assert_as_it_was(BUSY, call)
            self.assertEqual(told(*BUSY, call, call, ("rv_state",))[-3:-1], [last(*BUSY, call)] * 2)
            self.assertEqual(last(*BUSY, call, ("rv_state",)), [2, 3, 2, 2, 4, 1])


class Best(Gains):
    def test_ordinary(self):
        self.assertEqual(answers([0, 3, 2, 16, 1, 0, 1, 4, 16]), [1, 0, 1, -33, 1, 0, 3, 2, 0, 1])

    def test_the_greatest_gain(self):
        calls = [START, ("rv_reserve", 0, 0, 1), ("rv_reserve", 1, 0, 2), ("rv_reserve", 2, 1, 3)]
        self.assert_gains(calls, {(0, 0): 1, (1, 0): 1, (2, 1): 2}, [2, 2, 1])

    def test_of_like_ones_the_first_state(self):
        calls = [START, ("rv_reserve", 2, 1, 1), ("rv_reserve", 1, 0, 1)]
        self.assert_gains(calls, {(1, 0): 2, (2, 1): 2}, [2, 1, 0])
        # The state is looked at ahead of the article.
        crossed = [START, ("rv_reserve", 1, 0, 1), ("rv_reserve", 0, 1, 1)]
        self.assert_gains(crossed, {(1, 0): 2, (0, 1): 2}, [2, 0, 1])

    def test_of_like_ones_of_a_state_the_first_article(self):
        calls = [START, ("rv_reserve", 2, 1, 1), ("rv_reserve", 2, 0, 1)]
        self.assert_gains(calls, {(2, 0): 2, (2, 1): 2}, [2, 2, 0])

    def test_made_anew_it_stands_where_it_stood(self):
        calls = [START, ("rv_reserve", 0, 0, 1), ("rv_reserve", 0, 1, 1), ("rv_reserve", 0, 0, 2)]
        self.assert_gains(calls, {(0, 0): 2, (0, 1): 2}, [2, 0, 0])

    def test_nothing_is_gained_by_any(self):
        calls = [("rv_start", 6, 1)] + [("rv_reserve", i, 0, 1) for i in (5, 4, 3, 2, 1, 0)]
        self.assert_gains(calls, {(0, 0): 0, (5, 0): 0}, [0, 0, 0])

    def test_all_reservations_there_can_be(self):
        calls = [("rv_start", 6, 8)] + [("rv_reserve", i, a, 1 + (i + a) % 4) for i in range(6) for a in range(8)]
        self.assertEqual(last(*calls, ("rv_best",)), [0, 0, 0])
        calls += [("rv_withdraw", i, 7) for i in range(5)]
        self.assertEqual(last(*calls, ("rv_best",)), [5, 5, 7])

    def test_no_reservations(self):
        empty = [START]
        withdrawn = [START, ("rv_reserve", 0, 0, 1), ("rv_withdraw", 0, 0)]
        back = [START, ("rv_reserve", 0, 0, 1), ("rv_back",)]
        anew = [("rv_start", 6, 8), ("rv_reserve", 0, 0, 1), START]
        for calls in (empty, withdrawn, back, anew):
            self.assertEqual(last(*calls, ("rv_best",)), [-33])
            self.assert_as_it_was(calls, ("rv_best",))

    def test_asking_changes_nothing_and_is_no_change(self):
        self.assert_as_it_was(BUSY, ("rv_best",))
        self.assertEqual(last(*BUSY, ("rv_best",), ("rv_state",)), [2, 3, 2, 2, 4, 1])


if __name__ == "__main__":
    unittest.main()
