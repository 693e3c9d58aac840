"""The interface: one list in, one list out, nothing changed and nothing kept."""

import inspect
import unittest

from reservedtreaty import treaty
from reservedtreaty.treaty import answers
from tests.helper import FAR, line, told

# Every call, with refusals among them.
MANY = line([
    ("rv_start", 7, 1),
    ("rv_start", 3, 2),
    ("rv_reserve", 0, 1, 4),
    ("rv_reserve", 0, 1, 5),
    ("rv_reserve", 1, 0, 2),
    ("rv_object", 1, 0, 1, 1),
    ("rv_object", 2, 0, 1, 2),
    ("rv_between", 0, 1, 1),
    ("rv_whole", 0, 2),
    ("rv_related", 2, 0),
    ("rv_told", 0),
    ("rv_objected", 0),
    ("rv_accept", 1, 0, 1),
    ("rv_accept_all", 0),
    ("rv_withdraw", 0, 1),
    ("rv_withdraw", 0, 1),
    ("rv_told", FAR),
    ("rv_everywhere", 0),
    ("rv_sum",),
    ("rv_club", 0),
    ("rv_friends",),
    ("rv_gain", 1, 0),
    ("rv_gain", 1, 1),
    ("rv_best",),
    ("rv_alike", 0, 2),
    ("rv_texts",),
    ("rv_back",),
    ("rv_back",),
    ("rv_again",),
    ("rv_state",),
    ("rv_start", 2, 1),
    ("rv_best",),
    ("rv_back",),
    ("rv_again",),
])
MANY_ANSWERS = [
    1, -22, 1, 0, 1, 0, 1, -22, 1, 0, 1, 0, 1, 0,
    1, 1,
    9, 0, 9, 9, 0, 0, 0, 0, 0, 0,
    1, 0,
    9, 1, 0, 4, 0, 0, 0, 0, 0, 0,
    2, 2, 0,
    1, 1, 1, 1, 1, 4, 1, -6, 1, -2,
    2, 0, 1,
    2, 4, 6,
    2, 2, 5,
    2, 3, 7,
    1, 2, 1, -6,
    3, 2, 1, 0,
    1, 1, 1, 2,
    1, 6, 1, 5, 1, 1,
    6, 2, 3, 2, 0, 6, 1,
    1, 0, 1, -33, 1, -2, 1, -2,
]


class Untouched(list):
    """A list that tells when somebody would change it, be it for a while."""

    def refuse(self, *given):
        raise AssertionError("the list handed in is changed")

    append = extend = insert = remove = pop = clear = sort = reverse = refuse
    __setitem__ = __delitem__ = __iadd__ = __imul__ = refuse


class Interface(unittest.TestCase):
    def test_every_call_and_the_whole_list(self):
        self.assertEqual(answers(MANY), MANY_ANSWERS)

    def test_names_and_arguments(self):
        self.assertEqual(list(inspect.signature(treaty.answers).parameters), ["calls"])
        self.assertEqual(answers(calls=[0, 2, 1]), [1, 0])

    def test_the_answer_is_a_list_of_plain_whole_numbers(self):
        self.assertIs(type(answers(MANY)), list)
        self.assertEqual({type(number) for number in answers(MANY)}, {int})

    def test_the_list_handed_in_is_as_it_was(self):
        calls = list(MANY)
        given = answers(calls)
        self.assertEqual(calls, MANY)
        self.assertEqual(answers(calls), given)
        self.assertEqual(calls, MANY)

    def test_the_list_handed_in_is_not_changed_for_a_while_either(self):
        self.assertEqual(answers(Untouched(MANY)), MANY_ANSWERS)

    def test_nothing_is_kept_from_one_time_to_the_next(self):
        answers([0, 6, 8, 1, 0, 1, 1, 3, 1, 0, 1, 2])
        self.assertEqual(answers(MANY), MANY_ANSWERS)
        given = answers([0, 2, 1])
        given.append(5)
        self.assertEqual(answers([0, 2, 1]), [1, 0])

    def test_numbers_up_to_the_greatest(self):
        start = ("rv_start", 6, 8)
        for call in (("rv_reserve", FAR, FAR, FAR), ("rv_withdraw", FAR, FAR), ("rv_object", FAR, FAR, FAR, FAR),
                     ("rv_accept", FAR, FAR, FAR), ("rv_accept_all", FAR), ("rv_between", FAR, FAR, FAR),
                     ("rv_whole", FAR, FAR), ("rv_related", FAR, FAR), ("rv_told", FAR), ("rv_objected", FAR),
                     ("rv_everywhere", FAR), ("rv_club", FAR), ("rv_gain", FAR, FAR), ("rv_alike", FAR, FAR)):
            self.assertEqual(told(start, call), [[0], [-2]], call)


class Long(unittest.TestCase):
    def test_a_thousand_starts(self):
        self.assertEqual(answers([0, 6, 8] * 1000), [1, 0] * 1000)

    def test_a_thousand_calls_of_five_numbers(self):
        calls = [("rv_start", 2, 1), ("rv_reserve", 0, 0, 1)]
        calls += [("rv_object", 1, 0, 0, 1 + turn % 2) for turn in range(998)]
        self.assertEqual(answers(line(calls)), [1, 0, 1, 0, 1, 0] + [1, 1, 1, 2] * 498 + [1, 1])

    def test_a_thousand_long_answers(self):
        self.assertEqual(answers([0, 2, 8] + [7, 0, 1] * 999), [1, 0] + [9, 8, 0, 0, 0, 0, 0, 0, 0, 0] * 999)

    def test_a_thousand_calls_of_one_number(self):
        start = [0, 6, 8]
        for number, answer in ((12, [2, 120, 120]), (14, [2, 6, 63]), (16, [1, -33]), (18, [1, 1]), (19, [1, -2]),
                               (20, [1, -2]), (21, [6, 0, 6, 8, 0, 0, 0])):
            self.assertEqual(answers(start + [number] * 999), [1, 0] + answer * 999)

    def test_a_thousand_times_back_and_again(self):
        self.assertEqual(answers([0, 2, 1, 1, 0, 0, 4] + [19, 20] * 499), [1, 0, 1, 0] + [1, 0, 1, 0] * 499)


if __name__ == "__main__":
    unittest.main()
