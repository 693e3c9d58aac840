"""A second telling of the document, as rows of rules, to hold the program against."""

import itertools

CHANGES = ("rv_reserve", "rv_withdraw", "rv_object", "rv_accept", "rv_accept_all")


class Reference:
    """Keeps all changes since the start; one is taken back by making all but the last once more from the start."""

    def __init__(self):
        self.n = 0
        self.m = 0
        self.kind = []
        self.against = []
        self.made = []
        self.unmade = []
        self.reach = 0

    def answer(self, call):
        name = call[0][3:]
        for due, refusal in getattr(self, "refusals_" + name)(*call[1:]):
            if due():
                return [refusal]
        if call[0] in CHANGES:
            self.made.append(call)
            self.unmade = []
            self.reach = min(20, self.reach + 1)
        return self.do(call)

    def do(self, call):
        return getattr(self, "do_" + call[0][3:])(*call[1:])

    def gone(self, states, articles=()):
        due = any(i not in range(self.n) for i in states) or any(a not in range(self.m) for a in articles)
        return (lambda: due), -2

    def refusals_start(self, n, m):
        return [(lambda: n not in range(2, 7) or m not in range(1, 9), -22)]

    def do_start(self, n, m):
        self.n = n
        self.m = m
        self.made = []
        self.unmade = []
        self.reach = 0
        self.empty()
        return [0]

    def empty(self):
        self.kind = [[0] * self.m for i in range(self.n)]
        self.against = [[[0] * self.n for a in range(self.m)] for i in range(self.n)]

    def refusals_reserve(self, i, a, k):
        return [self.gone([i], [a]), (lambda: k not in (1, 2, 3, 4), -22), (lambda: self.kind[i][a] == k, -17)]

    def do_reserve(self, i, a, k):
        was = self.kind[i][a]
        self.kind[i][a] = k
        self.against[i][a] = [0] * self.n
        return [was]

    def refusals_withdraw(self, i, a):
        return [self.gone([i], [a]), (lambda: self.kind[i][a] == 0, -6)]

    def do_withdraw(self, i, a):
        return self.do_reserve(i, a, 0)

    def refusals_object(self, j, i, a, x):
        return [self.gone([j, i], [a]), (lambda: j == i, -22), (lambda: x not in (1, 2), -22),
                (lambda: self.kind[i][a] == 0, -6), (lambda: self.against[i][a][j] == x, -17)]

    def do_object(self, j, i, a, x):
        was = self.against[i][a][j]
        self.against[i][a][j] = x
        return [was]

    def refusals_accept(self, j, i, a):
        return [self.gone([j, i], [a]), (lambda: self.against[i][a][j] == 0, -6)]

    def do_accept(self, j, i, a):
        return self.do_object(j, i, a, 0)

    def number_against(self, i):
        return sum(x != 0 for row in self.against[i] for x in row)

    def refusals_accept_all(self, i):
        return [self.gone([i]), (lambda: self.number_against(i) == 0, -17)]

    def do_accept_all(self, i):
        was = self.number_against(i)
        self.against[i] = [[0] * self.n for a in range(self.m)]
        return [was]

    def refusals_between(self, i, j, a):
        return [self.gone([i, j], [a]), (lambda: i == j, -22)]

    def do_between(self, i, j, a):
        if self.do_related(i, j) == [0]:
            return [9]
        if self.against[i][a][j] or self.against[j][a][i]:
            return [1]
        kinds = {self.kind[i][a], self.kind[j][a]} - {0}
        return [0 if not kinds else 1 if len(kinds) == 2 else max(kinds)]

    def refusals_whole(self, i, j):
        return [self.gone([i, j]), (lambda: i == j, -22)]

    def do_whole(self, i, j):
        row = [self.do_between(i, j, a)[0] for a in range(self.m)]
        return [row.count(0)] + row + [0] * (8 - self.m)

    def refusals_related(self, i, j):
        return self.refusals_whole(i, j)

    def do_related(self, i, j):
        return [int(all(2 not in (self.against[i][a][j], self.against[j][a][i]) for a in range(self.m)))]

    def refusals_told(self, i):
        return [self.gone([i])]

    def do_told(self, i):
        return [sum(k != 0 for k in self.kind[i])] + self.kind[i] + [0] * (8 - self.m)

    def refusals_objected(self, i):
        return [self.gone([i])]

    def do_objected(self, i):
        return [self.number_against(i), sum(row[i] != 0 for rows in self.against for row in rows)]

    def two(self):
        return list(itertools.combinations(range(self.n), 2))

    def refusals_everywhere(self, a):
        return [self.gone([], [a])]

    def do_everywhere(self, a):
        written = [self.do_between(i, j, a) == [0] for i, j in self.two()]
        return [int(all(written)), written.count(True)]

    def refusals_sum(self):
        return []

    def do_sum(self):
        return [sum(self.do_everywhere(a)[1] for a in range(self.m)), self.n * (self.n - 1) // 2 * self.m]

    def club(self, so):
        for size in range(self.n, 0, -1):
            clubs = [club for club in itertools.combinations(range(self.n), size)
                     if all(so(i, j) for i, j in itertools.combinations(club, 2))]
            if clubs:
                return [size, min(sum(2 ** i for i in club) for club in clubs)]

    def refusals_club(self, a):
        return [self.gone([], [a])]

    def do_club(self, a):
        return self.club(lambda i, j: self.do_between(i, j, a) == [0])

    def refusals_friends(self):
        return []

    def do_friends(self):
        return self.club(lambda i, j: self.do_related(i, j) == [1])

    def refusals_gain(self, i, a):
        return self.refusals_withdraw(i, a)

    def do_gain(self, i, a):
        before = self.do_sum()[0]
        kind = self.kind[i][a]
        against = self.against[i][a]
        self.do_withdraw(i, a)
        after = self.do_sum()[0]
        self.kind[i][a] = kind
        self.against[i][a] = against
        return [after - before]

    def reserved(self):
        return [(i, a) for i in range(self.n) for a in range(self.m) if self.kind[i][a]]

    def refusals_best(self):
        return [(lambda: not self.reserved(), -33)]

    def do_best(self):
        gains = [(-self.do_gain(i, a)[0], i, a) for i, a in self.reserved()]
        loss, i, a = min(gains)
        return [-loss, i, a]

    def refusals_alike(self, i, j):
        return self.refusals_whole(i, j)

    def do_alike(self, i, j):
        return [int(all(self.do_between(k, i, a) == self.do_between(k, j, a)
                        for k in range(self.n) if k not in (i, j) for a in range(self.m)))]

    def refusals_texts(self):
        return []

    def do_texts(self):
        return [len({str(self.do_whole(i, j)) for i, j in self.two() if self.do_related(i, j) == [1]})]

    def refusals_back(self):
        return [(lambda: self.reach == 0, -2)]

    def do_back(self):
        self.unmade.append(self.made.pop())
        self.reach -= 1
        self.empty()
        for call in self.made:
            self.do(call)
        return [self.reach]

    def refusals_again(self):
        return [(lambda: not self.unmade, -2)]

    def do_again(self):
        call = self.unmade.pop()
        self.made.append(call)
        self.reach += 1
        self.do(call)
        return [len(self.unmade)]

    def refusals_state(self):
        return []

    def do_state(self):
        objections = sum(self.number_against(i) for i in range(self.n))
        return [len(self.reserved()), self.n, self.m, objections, self.reach, len(self.unmade)]
