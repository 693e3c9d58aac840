"""Drawn lines over all calls, held against a second telling of the document, and against "What holds"."""

import unittest

from reservedtreaty.treaty import answers
from tests.helper import NUMBERS, line, told
from tests.reference import Reference


class Numbers:
    """The same numbers each time, by a plain rule, to draw calls from."""

    def __init__(self, seed):
        self.seed = seed

    def below(self, bound):
        self.seed = (self.seed * 1103515245 + 12345) % 2147483648
        return (self.seed >> 12) % bound


class Drawn:
    """A line of calls; now and then a number in it is just beyond what is there."""

    def __init__(self, seed, n, m):
        self.numbers = Numbers(seed)
        self.n = n
        self.m = m
        # In some lines nothing is objected to wholly, for such objections hide all else.
        self.wholly = 1 + self.numbers.below(2)
        self.calls = [("rv_start", n, m)]

    def number(self, bound):
        return self.numbers.below(bound + 1 if self.numbers.below(12) == 0 else bound)

    def change(self):
        i, j, a = self.number(self.n), self.number(self.n), self.number(self.m)
        return self.one_of([
            ("rv_reserve", i, a, self.numbers.below(6)),
            ("rv_reserve", i, a, 1 + self.numbers.below(4)),
            ("rv_reserve", i, a, 1 + self.numbers.below(4)),
            ("rv_withdraw", i, a),
            ("rv_object", j, i, a, self.numbers.below(4)),
            ("rv_object", j, i, a, 1),
            ("rv_object", j, i, a, 1 + self.numbers.below(self.wholly)),
            ("rv_accept", j, i, a),
            ("rv_accept_all", i),
        ])

    def question(self):
        i, j, a = self.number(self.n), self.number(self.n), self.number(self.m)
        return self.one_of([
            ("rv_between", i, j, a), ("rv_whole", j, i), ("rv_related", i, j), ("rv_told", i), ("rv_objected", i),
            ("rv_everywhere", a), ("rv_sum",), ("rv_club", a), ("rv_friends",), ("rv_gain", i, a), ("rv_best",),
            ("rv_alike", i, j), ("rv_texts",), ("rv_state",),
        ])

    def one_of(self, choices):
        return choices[self.numbers.below(len(choices))]

    def start(self):
        n, m = self.number(8), self.number(10)
        if n in range(2, 7) and m in range(1, 9):
            self.n = n
            self.m = m
        return ("rv_start", n, m)

    def some(self):
        """A few calls that go together; long rows of rv_back and rv_again reach the end of what they can do."""
        way = self.numbers.below(40)
        if way == 0:
            return [self.start()]
        if way == 1:
            return [("rv_back",)] * (1 + self.numbers.below(23))
        if way == 2:
            return [("rv_again",)] * (1 + self.numbers.below(23))
        if way < 6:
            return [self.one_of([("rv_back",), ("rv_again",)])]
        if way < 8:
            return [self.change() for turn in range(30)]
        return [self.change() if way < 24 else self.question(), ("rv_state",)]

    def line(self, count):
        while len(self.calls) < count:
            self.calls.extend(self.some())
        return self.calls[:count]


def lines():
    return [Drawn(100 * n + 10 * m + turn, n, m).line(count)
            for n in range(2, 7) for m in (1, 2, 5, 8) for turn, count in enumerate((1000, 300, 40))]


class Lines(unittest.TestCase):
    def test_every_answer_against_the_reference(self):
        for calls in lines():
            reference = Reference()
            for call, row in zip(calls, told(*calls)):
                self.assertEqual(row, reference.answer(call), (calls[0], call))

    def test_the_lines_hold_every_call_refused_and_not(self):
        never_refused = {"rv_sum", "rv_friends", "rv_texts", "rv_state"}
        refused = set()
        done = set()
        for calls in lines():
            for call, row in zip(calls, told(*calls)):
                (refused if row[0] < 0 else done).add(call[0])
        self.assertEqual(done, set(NUMBERS))
        self.assertEqual(refused, set(NUMBERS) - never_refused)

    def test_each_line_is_as_it_was_and_gives_the_same_again(self):
        for calls in lines():
            numbers = line(calls)
            given = answers(numbers)
            self.assertEqual(numbers, line(calls))
            self.assertEqual(answers(numbers), given)


class WhatHolds(unittest.TestCase):
    """The document's "What holds", behind drawn changes, read from the program's own answers."""

    def positions(self):
        for n, m in ((2, 1), (3, 2), (4, 3), (6, 8)):
            for seed in range(6):
                drawn = Drawn(seed, n, m)
                calls = [("rv_start", n, m)] + [drawn.change() for turn in range(20 + 15 * seed)]
                yield n, m, calls

    def rows(self, calls, asked):
        return told(*calls, *asked)[len(calls):]

    def pairs(self, n):
        return [(i, j) for i in range(n) for j in range(n) if i != j]

    def test_the_same_for_both(self):
        for n, m, calls in self.positions():
            for name in ("rv_whole", "rv_related", "rv_alike"):
                self.assertEqual(self.rows(calls, [(name, i, j) for i, j in self.pairs(n)]),
                                 self.rows(calls, [(name, j, i) for i, j in self.pairs(n)]))

    def test_between_them_alone(self):
        for n, m, calls in self.positions():
            for i, j in self.pairs(n):
                kept = [call for call in calls if self.parties(call) <= {i, j}]
                self.assertEqual(self.rows(calls, [("rv_whole", i, j)]), self.rows(kept, [("rv_whole", i, j)]))

    def parties(self, call):
        if call[0] in ("rv_object", "rv_accept"):
            return {call[1], call[2]}
        return set() if call[0] == "rv_start" else {call[1]}

    def test_as_it_is_written_just_when_neither_has_a_reservation(self):
        for n, m, calls in self.positions():
            kinds = [row[1:] for row in self.rows(calls, [("rv_told", i) for i in range(n)])]
            for i, j in self.pairs(n):
                whole, related = self.rows(calls, [("rv_whole", i, j), ("rv_related", i, j)])
                for a in range(m):
                    free = related == [1] and kinds[i][a] == 0 and kinds[j][a] == 0
                    self.assertEqual(whole[1 + a] == 0, free)

    def test_a_gain_is_what_a_withdrawal_brings_and_never_below_0(self):
        for n, m, calls in self.positions():
            gains = {}
            before = self.rows(calls, [("rv_sum",)])[0]
            for i in range(n):
                for a in range(m):
                    gain, withdrawn, after = self.rows(calls, [("rv_gain", i, a), ("rv_withdraw", i, a), ("rv_sum",)])
                    if withdrawn == [-6]:
                        self.assertEqual(gain, [-6])
                    else:
                        self.assertEqual(gain, [after[0] - before[0]])
                        self.assertGreaterEqual(gain[0], 0)
                        gains[i, a] = gain[0]
            self.assert_best(self.rows(calls, [("rv_best",)])[0], gains)

    def assert_best(self, best, gains):
        if not gains:
            self.assertEqual(best, [-33])
            return
        most = max(gains.values())
        first = min(key for key in gains if gains[key] == most)
        self.assertEqual(best, [most, *first])

    def test_made_where_there_was_none_nothing_is_more_so(self):
        for n, m, calls in self.positions():
            before = self.rows(calls, [("rv_sum",)])[0]
            for i in range(n):
                for a in range(m):
                    made, after = self.rows(calls, [("rv_reserve", i, a, 3), ("rv_sum",)])
                    if made == [0]:
                        self.assertLessEqual(after[0], before[0])

    def test_alike_are_two_with_the_same_reservations_and_objections(self):
        for n, m, calls in self.positions():
            if n > 2:
                same = []
                for call in calls:
                    if not self.parties(call) & {0, 1}:
                        same.append(call)
                    elif 1 not in self.parties(call):
                        same.append(call)
                        same.append((call[0],) + self.with_1_for_0(call))
                self.assertEqual(self.rows(same, [("rv_alike", 0, 1)]), [[1]])

    def with_1_for_0(self, call):
        places = 2 if call[0] in ("rv_object", "rv_accept") else 1
        return tuple(1 if place < places and value == 0 else value for place, value in enumerate(call[1:]))

    def test_taken_back_all_is_as_it_was(self):
        for n, m, calls in self.positions():
            asked = [("rv_told", i) for i in range(n)] + [("rv_whole", i, j) for i, j in self.pairs(n)]
            asked += [("rv_objected", i) for i in range(n)] + [("rv_best",), ("rv_texts",)]
            row = told(*calls)
            made = [at for at in range(1, len(calls)) if row[at][0] >= 0][-20:]
            for turn, at in enumerate(reversed(made)):
                back = calls + [("rv_back",)] * (turn + 1)
                self.assertEqual(self.rows(back, asked), self.rows(calls[:at], asked))
                self.assertEqual(self.rows(back + [("rv_again",)] * (turn + 1), asked), self.rows(calls, asked))


if __name__ == "__main__":
    unittest.main()
