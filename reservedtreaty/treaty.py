"""The calls on one treaty, one behind another, and what each of them answers.

Each call is a function that answers a list: the refusal alone, or the number and then all numbers of out.
"""

from reservedtreaty.among import alike, best_gain, different_texts, gain, largest_club
from reservedtreaty.among import pairs, pairs_as_written, pairs_related, written_in_all
from reservedtreaty.between import AS_WRITTEN, article_between, articles_between, related
from reservedtreaty.pact import Pact

NOT_THERE = -2
NO_SUCH = -6
ALREADY_SO = -17
NOT_ALLOWED = -22
NO_RESERVATIONS = -33

MOST_ARTICLES = 8


def filled(row):
    """The row with 0 behind the last article, for out is always as long as the most articles."""
    return row + [0] * (MOST_ARTICLES - len(row))


def rv_start(pact, n, m):
    if n < 2 or n > 6 or m < 1 or m > MOST_ARTICLES:
        return [NOT_ALLOWED]
    pact.begin(n, m)
    return [0]


def rv_reserve(pact, i, a, k):
    if pact.lacks_state(i) or pact.lacks_article(a):
        return [NOT_THERE]
    if k < 1 or k > 4:
        return [NOT_ALLOWED]
    before = pact.reservation(i, a)
    if before == k:
        return [ALREADY_SO]
    pact.reserve(i, a, k)
    return [before]


def rv_withdraw(pact, i, a):
    if pact.lacks_state(i) or pact.lacks_article(a):
        return [NOT_THERE]
    before = pact.reservation(i, a)
    if before == 0:
        return [NO_SUCH]
    pact.withdraw(i, a)
    return [before]


def rv_object(pact, j, i, a, x):
    if pact.lacks_state(j) or pact.lacks_state(i) or pact.lacks_article(a):
        return [NOT_THERE]
    if j == i or x < 1 or x > 2:
        return [NOT_ALLOWED]
    if pact.reservation(i, a) == 0:
        return [NO_SUCH]
    before = pact.objection(j, i, a)
    if before == x:
        return [ALREADY_SO]
    pact.protest(j, i, a, x)
    return [before]


def rv_accept(pact, j, i, a):
    if pact.lacks_state(j) or pact.lacks_state(i) or pact.lacks_article(a):
        return [NOT_THERE]
    before = pact.objection(j, i, a)
    if before == 0:
        return [NO_SUCH]
    pact.accept(j, i, a)
    return [before]


def rv_accept_all(pact, i):
    if pact.lacks_state(i):
        return [NOT_THERE]
    before = len(pact.objections_to(i))
    if before == 0:
        return [ALREADY_SO]
    pact.accept_all(i)
    return [before]


def refusal_of_two(pact, i, j):
    """Why nothing can be told of states i and j as two; 0 if it can."""
    if pact.lacks_state(i) or pact.lacks_state(j):
        return NOT_THERE
    if i == j:
        return NOT_ALLOWED
    return 0


def rv_between(pact, i, j, a):
    # A missing article is told ahead of i being j, so it is looked at first.
    if pact.lacks_article(a):
        return [NOT_THERE]
    refusal = refusal_of_two(pact, i, j)
    if refusal != 0:
        return [refusal]
    return [article_between(pact, i, j, a)]


def rv_whole(pact, i, j):
    refusal = refusal_of_two(pact, i, j)
    if refusal != 0:
        return [refusal]
    row = articles_between(pact, i, j)
    return [row.count(AS_WRITTEN)] + filled(row)


def rv_related(pact, i, j):
    refusal = refusal_of_two(pact, i, j)
    if refusal != 0:
        return [refusal]
    return [1 if related(pact, i, j) else 0]


def rv_told(pact, i):
    if pact.lacks_state(i):
        return [NOT_THERE]
    row = pact.kinds(i)
    return [len(row) - row.count(0)] + filled(row)


def rv_objected(pact, i):
    if pact.lacks_state(i):
        return [NOT_THERE]
    return [len(pact.objections_to(i)), len(pact.objections_by(i))]


def rv_everywhere(pact, a):
    if pact.lacks_article(a):
        return [NOT_THERE]
    written = len(pairs_as_written(pact, a))
    return [1 if written == len(pairs(pact)) else 0, written]


def rv_sum(pact):
    return [written_in_all(pact), len(pairs(pact)) * pact.articles]


def rv_club(pact, a):
    if pact.lacks_article(a):
        return [NOT_THERE]
    return largest_club(pact.states, pairs_as_written(pact, a))


def rv_friends(pact):
    return largest_club(pact.states, pairs_related(pact))


def rv_gain(pact, i, a):
    if pact.lacks_state(i) or pact.lacks_article(a):
        return [NOT_THERE]
    if pact.reservation(i, a) == 0:
        return [NO_SUCH]
    return [gain(pact, i, a)]


def rv_best(pact):
    if len(pact.reservations) == 0:
        return [NO_RESERVATIONS]
    return best_gain(pact)


def rv_alike(pact, i, j):
    refusal = refusal_of_two(pact, i, j)
    if refusal != 0:
        return [refusal]
    return [1 if alike(pact, i, j) else 0]


def rv_texts(pact):
    return [different_texts(pact)]


def rv_back(pact):
    if len(pact.past) == 0:
        return [NOT_THERE]
    pact.back()
    return [len(pact.past)]


def rv_again(pact):
    if len(pact.undone) == 0:
        return [NOT_THERE]
    pact.again()
    return [len(pact.undone)]


def rv_state(pact):
    return [len(pact.reservations), pact.states, pact.articles, len(pact.objections), len(pact.past), len(pact.undone)]


# Each call by its number, with how many numbers stand behind that.
CALLS = {
    0: (rv_start, 2),
    1: (rv_reserve, 3),
    2: (rv_withdraw, 2),
    3: (rv_object, 4),
    4: (rv_accept, 3),
    5: (rv_accept_all, 1),
    6: (rv_between, 3),
    7: (rv_whole, 2),
    8: (rv_related, 2),
    9: (rv_told, 1),
    10: (rv_objected, 1),
    11: (rv_everywhere, 1),
    12: (rv_sum, 0),
    13: (rv_club, 1),
    14: (rv_friends, 0),
    15: (rv_gain, 2),
    16: (rv_best, 0),
    17: (rv_alike, 2),
    18: (rv_texts, 0),
    19: (rv_back, 0),
    20: (rv_again, 0),
    21: (rv_state, 0),
}


def answer_of(pact, call, given):
    if len(given) == 0:
        return call(pact)
    if len(given) == 1:
        return call(pact, given[0])
    if len(given) == 2:
        return call(pact, given[0], given[1])
    if len(given) == 3:
        return call(pact, given[0], given[1], given[2])
    return call(pact, given[0], given[1], given[2], given[3])


def answers(calls):
    """For each call in order how many numbers are answered, and these."""
    pact = Pact()
    told = []
    at = 0
    while at < len(calls):
        entry = CALLS[calls[at]]
        behind = at + 1 + entry[1]
        answer = answer_of(pact, entry[0], calls[at + 1:behind])
        told.append(len(answer))
        told.extend(answer)
        at = behind
    return told
