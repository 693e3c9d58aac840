"""Point 4: rv_club, rv_friends."""

import itertools
import unittest

from reservedtreaty.treaty import answers
from tests.helper import FAR, everything, last, told

PAIRS_OF_SIX = list(itertools.combinations(range(6), 2))

BUSY = [
    ("rv_start", 3, 2),
    ("rv_reserve", 0, 1, 4),
    ("rv_object", 2, 0, 1, 2),
    ("rv_reserve", 1, 0, 1),
    ("rv_back",),
]


def linked(*pairs):
    """Six states, with the treaty between these pairs alone; to article 7 each has a reservation, to no other."""
    calls = [("rv_start", 6, 8)] + [("rv_reserve", i, 7, 1) for i in range(6)]
    for turn, (i, j) in enumerate(PAIRS_OF_SIX):
        if (i, j) not in pairs:
            # Now the one objects, now the other.
            calls.append(("rv_object", i, j, 7, 2) if turn % 2 else ("rv_object", j, i, 7, 2))
    return calls


def all_but(*pairs):
    return linked(*[two for two in PAIRS_OF_SIX if two not in pairs])


class Clubs(unittest.TestCase):
    def assert_club(self, calls, size, number):
        """Of friends, and of those between whom an article is as written to which nobody has a reservation."""
        self.assertEqual(told(*calls, ("rv_friends",), ("rv_club", 0), ("rv_club", 6))[-3:], [[size, number]] * 3)

    def assert_as_it_was(self, call):
        self.assertEqual(everything(BUSY + [call], 3, 2), everything(BUSY, 3, 2), call)


class Club(Clubs):
    def test_ordinary(self):
        self.assertEqual(answers([0, 3, 2, 1, 0, 1, 4, 13, 0, 13, 1]), [1, 0, 1, 0, 2, 3, 7, 2, 2, 6])

    def test_all_states(self):
        for n in range(2, 7):
            for m in (1, 8):
                self.assertEqual(last(("rv_start", n, m), ("rv_club", m - 1)), [n, 2 ** n - 1])

    def test_all_but_one(self):
        for i in range(6):
            self.assertEqual(last(("rv_start", 6, 8), ("rv_reserve", i, 7, 1), ("rv_club", 7)), [5, 63 - 2 ** i])

    def test_one_state_alone(self):
        for n in (2, 3, 6):
            calls = [("rv_start", n, 1)] + [("rv_reserve", i, 0, 2) for i in range(n)]
            self.assertEqual(last(*calls, ("rv_club", 0)), [1, 1])
        # One has no reservation, but each club of one is as large.
        self.assertEqual(last(("rv_start", 2, 1), ("rv_reserve", 0, 0, 1), ("rv_club", 0)), [1, 1])

    def test_the_same_reservation_makes_no_club(self):
        calls = [("rv_start", 4, 1), ("rv_reserve", 0, 0, 2), ("rv_reserve", 1, 0, 2)]
        self.assertEqual(last(*calls, ("rv_club", 0)), [2, 12])

    def test_an_objection_keeps_out_of_a_club_only_if_wholly(self):
        calls = [("rv_start", 3, 2), ("rv_reserve", 0, 1, 2), ("rv_object", 1, 0, 1, 1)]
        self.assertEqual(last(*calls, ("rv_club", 0)), [3, 7])
        self.assertEqual(last(*calls, ("rv_object", 1, 0, 1, 2), ("rv_club", 0)), [2, 5])

    def test_refusals(self):
        for a in (2, 3, 8, FAR):
            self.assertEqual(last(*BUSY, ("rv_club", a)), [-2])
            self.assert_as_it_was(("rv_club", a))

    def test_it_is_no_change(self):
        self.assert_as_it_was(("rv_club", 0))
        self.assert_as_it_was(("rv_club", 1))


class Friends(Clubs):
    def test_ordinary(self):
        self.assertEqual(answers([0, 3, 1, 14, 1, 0, 0, 4, 3, 1, 0, 0, 2, 14]), [1, 0, 2, 3, 7, 1, 0, 1, 0, 2, 2, 5])

    def test_all_states(self):
        for n in range(2, 7):
            self.assertEqual(last(("rv_start", n, 1), ("rv_friends",)), [n, 2 ** n - 1])

    def test_reservations_and_plain_objections_make_no_difference(self):
        calls = [("rv_start", 6, 1)] + [("rv_reserve", i, 0, 1 + i % 4) for i in range(6)]
        calls += [("rv_object", j, i, 0, 1) for i in range(6) for j in range(6) if i != j]
        self.assertEqual(told(*calls, ("rv_friends",), ("rv_club", 0))[-2:], [[6, 63], [1, 1]])

    def test_two_that_are_none(self):
        calls = [("rv_start", 2, 1), ("rv_reserve", 1, 0, 1), ("rv_object", 0, 1, 0, 2)]
        self.assertEqual(last(*calls, ("rv_friends",)), [1, 1])

    def test_it_is_no_change(self):
        self.assert_as_it_was(("rv_friends",))


class SixStates(Clubs):
    def test_nobody_and_everybody(self):
        self.assert_club(linked(), 1, 1)
        self.assert_club(all_but(), 6, 63)
        self.assertEqual(last(*all_but(), ("rv_club", 7)), [1, 1])

    def test_each_pair_alone(self):
        for i, j in PAIRS_OF_SIX:
            self.assert_club(linked((i, j)), 2, 2 ** i + 2 ** j)

    def test_each_pair_alone_is_none(self):
        for i, j in PAIRS_OF_SIX:
            # Of the two clubs of five the one without the greater state is the least.
            self.assert_club(all_but((i, j)), 5, 63 - 2 ** j)

    def test_of_like_ones_the_least_number_not_the_first_state(self):
        self.assert_club(linked((0, 5), (1, 2)), 2, 6)
        self.assert_club(linked((0, 1), (0, 5), (1, 5), (2, 3), (2, 4), (3, 4)), 3, 28)

    def test_several_largest_clubs(self):
        # Three pairs that are none: one of each pair makes a club, eight in all.
        self.assert_club(all_but((0, 1), (2, 3), (4, 5)), 3, 21)
        self.assert_club(all_but((0, 3), (1, 4), (2, 5)), 3, 7)
        # A ring of six, in which only neighbours are friends.
        self.assert_club(linked((0, 1), (1, 2), (2, 3), (3, 4), (4, 5), (0, 5)), 2, 3)

    def test_two_threes_and_then_one(self):
        even = [(0, 2), (0, 4), (2, 4)]
        odd = [(1, 3), (1, 5), (3, 5)]
        self.assert_club(linked(*even, *odd), 3, 21)
        self.assert_club(linked(*even[1:], *odd), 3, 42)

    def test_one_who_is_friends_with_all_does_not_make_a_club_of_them(self):
        self.assert_club(linked((0, 5), (1, 5), (2, 5), (3, 5), (4, 5)), 2, 33)

    def test_a_larger_club_of_a_greater_number(self):
        self.assert_club(linked((0, 1), (0, 2), (1, 2), *itertools.combinations((2, 3, 4, 5), 2)), 4, 60)


if __name__ == "__main__":
    unittest.main()
