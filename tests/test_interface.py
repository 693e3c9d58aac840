"""The interface: one list in, one list out, nothing changed and nothing kept."""

import inspect
import unittest

from reservedtreaty import treaty
from reservedtreaty.treaty import answers
from tests.helper import FAR, line, told
from tests.reference import Reference

# Every call, with refusals among them.
MANY = line([
    ("rv_start", 7, 1),
    ("rv_start", 3, 2),
    ("rv_reserve", 0, 1, 4),
    ("rv_reserve", 0, 1, 5),
    ("rv_reserve", 1, 0, 2),
    ("rv_object", 1, 0, 1, 1),
    ("rv_object", 2, 0, 1, 2),
    ("rv_between", 0, 1, 1),
    ("rv_whole", 0, 2),
    ("rv_related", 2, 0),
    ("rv_told", 0),
    ("rv_objected", 0),
    ("rv_accept", 1, 0, 1),
    ("rv_accept_all", 0),
    ("rv_withdraw", 0, 1),
    ("rv_withdraw", 0, 1),
    ("rv_told", FAR),
])
MANY_ANSWERS = [
    1, -22, 1, 0, 1, 0, 1, -22, 1, 0, 1, 0, 1, 0,
    1, 1,
    9, 0, 9, 9, 0, 0, 0, 0, 0, 0,
    1, 0,
    9, 1, 0, 4, 0, 0, 0, 0, 0, 0,
    2, 2, 0,
    1, 1, 1, 1, 1, 4, 1, -6, 1, -2,
]


class Untouched(list):
    """A list that tells when somebody would change it, be it for a while."""

    def refuse(self, *given):
        raise AssertionError("the list handed in is changed")

    append = extend = insert = remove = pop = clear = sort = reverse = refuse
    __setitem__ = __delitem__ = __iadd__ = __imul__ = refuse


class Numbers:
    """The same numbers each time, by a plain rule, to draw calls from."""

    def __init__(self, seed):
        self.seed = seed

    def below(self, bound):
        self.seed = (self.seed * 1103515245 + 12345) % 2147483648
        return (self.seed >> 12) % bound


def drawn_call(numbers, n, m):
    """One call of any kind; now and then a number in it is just beyond what is there."""
    i = numbers.below(n + 1) if numbers.below(8) == 0 else numbers.below(n)
    j = numbers.below(n)
    a = numbers.below(m + 1) if numbers.below(8) == 0 else numbers.below(m)
    shapes = [
        ("rv_reserve", i, a, numbers.below(6)),
        ("rv_reserve", i, a, 1 + numbers.below(4)),
        ("rv_withdraw", i, a),
        ("rv_object", j, i, a, numbers.below(4)),
        ("rv_object", j, i, a, 1),
        ("rv_object", j, i, a, 1 + numbers.below(2)),
        ("rv_accept", j, i, a),
        ("rv_accept_all", i),
        ("rv_between", i, j, a),
        ("rv_whole", j, i),
        ("rv_related", i, j),
        ("rv_told", i),
        ("rv_objected", i),
    ]
    return shapes[numbers.below(len(shapes))]


def drawn_calls(seed, n, m, count):
    numbers = Numbers(seed)
    return [("rv_start", n, m)] + [drawn_call(numbers, n, m) for turn in range(count - 1)]


class Interface(unittest.TestCase):
    def test_every_call_and_the_whole_list(self):
        self.assertEqual(answers(MANY), MANY_ANSWERS)

    def test_names_and_arguments(self):
        self.assertEqual(list(inspect.signature(treaty.answers).parameters), ["calls"])
        self.assertEqual(answers(calls=[0, 2, 1]), [1, 0])

    def test_the_answer_is_a_list_of_plain_whole_numbers(self):
        self.assertIs(type(answers(MANY)), list)
        self.assertEqual({type(number) for number in answers(MANY)}, {int})

    def test_the_list_handed_in_is_as_it_was(self):
        calls = list(MANY)
        given = answers(calls)
        self.assertEqual(calls, MANY)
        self.assertEqual(answers(calls), given)
        self.assertEqual(calls, MANY)

    def test_the_list_handed_in_is_not_changed_for_a_while_either(self):
        self.assertEqual(answers(Untouched(MANY)), MANY_ANSWERS)

    def test_nothing_is_kept_from_one_time_to_the_next(self):
        answers([0, 6, 8, 1, 0, 1, 1, 3, 1, 0, 1, 2])
        self.assertEqual(answers(MANY), MANY_ANSWERS)
        given = answers([0, 2, 1])
        given.append(5)
        self.assertEqual(answers([0, 2, 1]), [1, 0])

    def test_numbers_up_to_the_greatest(self):
        start = ("rv_start", 6, 8)
        for call in (("rv_reserve", FAR, FAR, FAR), ("rv_withdraw", FAR, FAR), ("rv_object", FAR, FAR, FAR, FAR),
                     ("rv_accept", FAR, FAR, FAR), ("rv_accept_all", FAR), ("rv_between", FAR, FAR, FAR),
                     ("rv_whole", FAR, FAR), ("rv_related", FAR, FAR), ("rv_told", FAR), ("rv_objected", FAR)):
            self.assertEqual(told(start, call), [[0], [-2]], call)


class Long(unittest.TestCase):
    def test_a_thousand_starts(self):
        self.assertEqual(answers([0, 6, 8] * 1000), [1, 0] * 1000)

    def test_a_thousand_calls_of_five_numbers(self):
        calls = [("rv_start", 2, 1), ("rv_reserve", 0, 0, 1)]
        calls += [("rv_object", 1, 0, 0, 1 + turn % 2) for turn in range(998)]
        self.assertEqual(answers(line(calls)), [1, 0, 1, 0, 1, 0] + [1, 1, 1, 2] * 498 + [1, 1])

    def test_a_thousand_long_answers(self):
        self.assertEqual(answers([0, 2, 8] + [7, 0, 1] * 999), [1, 0] + [9, 8, 0, 0, 0, 0, 0, 0, 0, 0] * 999)

    def test_a_thousand_drawn_calls_against_the_reference(self):
        for n in range(2, 7):
            for m in (1, 2, 5, 8):
                calls = drawn_calls(100 * n + m, n, m, 1000)
                reference = Reference()
                for call, row in zip(calls, told(*calls)):
                    self.assertEqual(row, reference.answer(call), (n, m, call))


if __name__ == "__main__":
    unittest.main()
