"""The treaty as it stands: who has which reservation, and who objects to it."""


class Pact:
    """All reservations and objections; an objection is only kept to a reservation that is there."""

    def __init__(self):
        self.begin(0, 0)

    def begin(self, states, articles):
        self.states = states
        self.articles = articles
        self.reservations = {}
        self.objections = {}

    def lacks_state(self, i):
        return i >= self.states

    def lacks_article(self, a):
        return a >= self.articles

    def reservation(self, i, a):
        """The kind of state i's reservation to article a, 0 if it has none."""
        return self.reservations.get((i, a), 0)

    def objection(self, j, i, a):
        """State j's objection to state i's reservation to article a, 0 if it has none."""
        return self.objections.get((j, i, a), 0)

    def reserve(self, i, a, kind):
        self.withdraw(i, a)
        self.reservations[(i, a)] = kind

    def withdraw(self, i, a):
        # The objections were to this reservation alone, so they go with it.
        for j in range(self.states):
            self.objections.pop((j, i, a), 0)
        self.reservations.pop((i, a), 0)

    def protest(self, j, i, a, objection):
        self.objections[(j, i, a)] = objection

    def accept(self, j, i, a):
        self.objections.pop((j, i, a), 0)

    def accept_all(self, i):
        for key in self.objections_to(i):
            self.objections.pop(key)

    def objections_by(self, j):
        return [key for key in self.objections if key[0] == j]

    def objections_to(self, i):
        return [key for key in self.objections if key[1] == i]

    def kinds(self, i):
        """To each article the kind of state i's reservation."""
        return [self.reservation(i, a) for a in range(self.articles)]
