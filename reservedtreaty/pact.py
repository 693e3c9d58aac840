"""The treaty as it stands: who has which reservation, and who objects to it; and how it came to stand so."""

MOST_BACK = 20


class Pact:
    """All reservations and objections; an objection is only kept to a reservation that is there.

    Past holds what stood before each change that can be taken back, undone what stood before each rv_back that
    can be done again: of both the last one is the next to come.
    """

    def __init__(self):
        self.begin(0, 0)

    def begin(self, states, articles):
        self.states = states
        self.articles = articles
        self.reservations = {}
        self.objections = {}
        self.past = []
        self.undone = []

    def lacks_state(self, i):
        return i >= self.states

    def lacks_article(self, a):
        return a >= self.articles

    def reservation(self, i, a):
        """The kind of state i's reservation to article a, 0 if it has none."""
        return self.reservations.get((i, a), 0)

    def objection(self, j, i, a):
        """State j's objection to state i's reservation to article a, 0 if it has none."""
        return self.objections.get((j, i, a), 0)

    def reserve(self, i, a, kind):
        self.remember()
        self.lift(i, a)
        self.reservations[(i, a)] = kind

    def withdraw(self, i, a):
        self.remember()
        self.lift(i, a)

    def protest(self, j, i, a, objection):
        self.remember()
        self.objections[(j, i, a)] = objection

    def accept(self, j, i, a):
        self.remember()
        self.objections.pop((j, i, a), 0)

    def accept_all(self, i):
        self.remember()
        for key in self.objections_to(i):
            self.objections.pop(key)

    def lift(self, i, a):
        # The objections were to this reservation alone, so they go with it.
        for j in range(self.states):
            self.objections.pop((j, i, a), 0)
        self.reservations.pop((i, a), 0)

    def standing(self):
        # Copies, for a change works on the very dicts that stand now.
        return (dict(self.reservations), dict(self.objections))

    def restore(self, stood):
        self.reservations = stood[0]
        self.objections = stood[1]

    def remember(self):
        """To be called ahead of each change."""
        self.past.append(self.standing())
        if len(self.past) > MOST_BACK:
            self.past.pop(0)
        self.undone.clear()

    def back(self):
        self.undone.append(self.standing())
        self.restore(self.past.pop())

    def again(self):
        self.past.append(self.standing())
        self.restore(self.undone.pop())

    def objections_by(self, j):
        return [key for key in self.objections if key[0] == j]

    def objections_to(self, i):
        return [key for key in self.objections if key[1] == i]

    def kinds(self, i):
        """To each article the kind of state i's reservation."""
        return [self.reservation(i, a) for a in range(self.articles)]
