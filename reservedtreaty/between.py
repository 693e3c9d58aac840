"""What is so between two states; no third one is looked at."""

AS_WRITTEN = 0
NOT_APPLIED = 1
NO_TREATY = 9

WHOLLY = 2


def objects_wholly(pact, j, i):
    return any([pact.objection(j, i, a) == WHOLLY for a in range(pact.articles)])


def related(pact, i, j):
    return not objects_wholly(pact, i, j) and not objects_wholly(pact, j, i)


def joined(kind, other):
    """What two reservations to one article, 0 for none, make of it where neither is objected to."""
    if kind == 0:
        return other
    if other == 0 or other == kind:
        return kind
    return NOT_APPLIED


def article_between(pact, i, j, a):
    if not related(pact, i, j):
        return NO_TREATY
    if pact.objection(i, j, a) != 0 or pact.objection(j, i, a) != 0:
        return NOT_APPLIED
    # Where neither has a reservation, joined gives 0, which is AS_WRITTEN.
    return joined(pact.reservation(i, a), pact.reservation(j, a))


def articles_between(pact, i, j):
    return [article_between(pact, i, j, a) for a in range(pact.articles)]
