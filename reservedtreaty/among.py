"""What is so among all states: over each two of them, in clubs, and by a withdrawal."""

from reservedtreaty.between import AS_WRITTEN, article_between, articles_between
from reservedtreaty.between import gain_between, related, written_between


def others(pact, i):
    return [j for j in range(pact.states) if j != i]


def pairs(pact):
    """Each two states once."""
    found = []
    for j in range(pact.states):
        for i in range(j):
            found.append((i, j))
    return found


def pairs_as_written(pact, a):
    return [two for two in pairs(pact) if article_between(pact, two[0], two[1], a) == AS_WRITTEN]


def pairs_related(pact):
    return [two for two in pairs(pact) if related(pact, two[0], two[1])]


def written_in_all(pact):
    """Between how many pairs articles are as they're written, all articles together."""
    return sum([written_between(pact, two[0], two[1]) for two in pairs(pact)])


def different_texts(pact):
    """By how many different rows of articles the treaty is between those two between whom it is."""
    return len(set([tuple(articles_between(pact, two[0], two[1])) for two in pairs_related(pact)]))


def alike(pact, i, j):
    """Whether every third state has the same with i as with j."""
    thirds = [s for s in others(pact, i) if s != j]
    return all([articles_between(pact, s, i) == articles_between(pact, s, j) for s in thirds])


def members(number, states):
    """The states in the set that is told as this number."""
    return [i for i in range(states) if (number >> i) & 1 == 1]


def companions(states, linked):
    """For each state the set of those with whom it makes one of the linked pairs, and of itself."""
    sets = [1 << i for i in range(states)]
    for two in linked:
        sets[two[0]] |= 1 << two[1]
        sets[two[1]] |= 1 << two[0]
    return sets


def largest_club(states, linked):
    """How many states are in the largest set of which each two are a linked pair, and its number."""
    sets = companions(states, linked)
    largest = [0, 0]
    # By rising numbers, so of like clubs the least number is met first and stays.
    for number in range(1, 1 << states):
        inside = members(number, states)
        if len(inside) > largest[0] and all([number & sets[i] == number for i in inside]):
            largest = [len(inside), number]
    return largest


def gain(pact, i, a):
    """How much more would be as it's written if state i withdrew its reservation to article a."""
    # Pairs without state i are not looked at: what is between two hangs on no third state.
    return sum([gain_between(pact, i, j, a) for j in others(pact, i)])


def best_gain(pact):
    """The greatest gain, with the state and the article of its reservation; there must be one."""
    best = []
    # In the order of state and article, so of like gains the first stays.
    for key in sorted(pact.reservations):
        more = gain(pact, key[0], key[1])
        if len(best) == 0 or more > best[0]:
            best = [more, key[0], key[1]]
    return best
