"""What the tests share: calls by their names, and answers taken apart."""

from reservedtreaty.treaty import answers

NUMBERS = {
    "rv_start": 0,
    "rv_reserve": 1,
    "rv_withdraw": 2,
    "rv_object": 3,
    "rv_accept": 4,
    "rv_accept_all": 5,
    "rv_between": 6,
    "rv_whole": 7,
    "rv_related": 8,
    "rv_told": 9,
    "rv_objected": 10,
    "rv_everywhere": 11,
    "rv_sum": 12,
    "rv_club": 13,
    "rv_friends": 14,
    "rv_gain": 15,
    "rv_best": 16,
    "rv_alike": 17,
    "rv_texts": 18,
    "rv_back": 19,
    "rv_again": 20,
    "rv_state": 21,
}

# How many numbers are answered by a call that is not refused.
LENGTHS = {"rv_whole": 9, "rv_told": 9, "rv_objected": 2, "rv_everywhere": 2, "rv_sum": 2, "rv_club": 2,
           "rv_friends": 2, "rv_best": 3, "rv_state": 6}

FAR = 4294967295


def line(calls):
    """The one list of numbers for calls such as ("rv_start", 3, 2)."""
    numbers = []
    for call in calls:
        numbers.append(NUMBERS[call[0]])
        numbers.extend(call[1:])
    return numbers


def told(*calls):
    """What each call answers, each a list; the counts before them are looked at here."""
    numbers = answers(line(calls))
    rows = []
    at = 0
    for call in calls:
        count = numbers[at]
        row = numbers[at + 1:at + 1 + count]
        expected = 1 if row[0] < 0 else LENGTHS.get(call[0], 1)
        if count != expected or len(row) != count:
            raise AssertionError(f"{call} answers {count} numbers: {row}")
        rows.append(row)
        at += 1 + count
    if at != len(numbers):
        raise AssertionError(f"{numbers[at:]} behind the last answer")
    return rows


def last(*calls):
    return told(*calls)[-1]


def standing(calls, n, m):
    """All reservations and objections behind the calls.

    An objection is read by what its acceptance would answer, each in a session of its own.
    """
    reservations = [last(*calls, ("rv_told", i))[1:] for i in range(n)]
    objections = {}
    for j in range(n):
        for i in range(n):
            for a in range(m):
                answer = last(*calls, ("rv_accept", j, i, a))
                if answer != [-6]:
                    objections[j, i, a] = answer[0]
    return reservations, objections


def everything(calls, n, m):
    """All that can be told behind the calls, what can be taken back and done again among it."""
    backs = [("rv_back",), ("rv_state",), ("rv_texts",), ("rv_sum",)] * 21
    agains = [("rv_again",), ("rv_state",), ("rv_texts",), ("rv_sum",)] * 21
    behind = len(calls)
    return (standing(calls, n, m), last(*calls, ("rv_state",)), told(*calls, *backs)[behind:],
            told(*calls, *agains)[behind:])
