"""What is so between two states; no third one is looked at."""

AS_WRITTEN = 0
NOT_APPLIED = 1
NO_TREATY = 9

WHOLLY = 2


def wholly_objected(pact, j, i):
    """The articles with a reservation of state i to which state j objects wholly."""
    return [a for a in range(pact.articles) if pact.objection(j, i, a) == WHOLLY]


def related(pact, i, j):
    return wholly_objected(pact, i, j) == [] and wholly_objected(pact, j, i) == []


def joined(kind, other):
    """What two reservations to one article, 0 for none, make of it where neither is objected to."""
    if kind == 0:
        return other
    if other == 0 or other == kind:
        return kind
    return NOT_APPLIED


def article_of_related(pact, i, j, a):
    """What article a is between two between whom the treaty is."""
    if pact.objection(i, j, a) != 0 or pact.objection(j, i, a) != 0:
        return NOT_APPLIED
    # Where neither has a reservation, joined gives 0, which is AS_WRITTEN.
    return joined(pact.reservation(i, a), pact.reservation(j, a))


def article_between(pact, i, j, a):
    if not related(pact, i, j):
        return NO_TREATY
    return article_of_related(pact, i, j, a)


def articles_between(pact, i, j):
    if not related(pact, i, j):
        return [NO_TREATY] * pact.articles
    return [article_of_related(pact, i, j, a) for a in range(pact.articles)]


def written_between(pact, i, j):
    """How many articles are as they're written."""
    return articles_between(pact, i, j).count(AS_WRITTEN)


def unreserved(pact, i, j):
    """The articles to which neither has a reservation."""
    return [a for a in range(pact.articles) if pact.reservation(i, a) == 0 and pact.reservation(j, a) == 0]


def gain_between(pact, i, j, a):
    """How many articles more would be as they're written between both, had state i no reservation to article a."""
    freed = 1 if pact.reservation(j, a) == 0 else 0
    if related(pact, i, j):
        return freed
    # The objections to the reservation go with it; the treaty comes to be if they alone stood in its way.
    if wholly_objected(pact, i, j) == [] and wholly_objected(pact, j, i) == [a]:
        return len(unreserved(pact, i, j)) + freed
    return 0
