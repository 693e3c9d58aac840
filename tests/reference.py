"""A second telling of the document, as rows of rules, to hold the program against."""


class Reference:
    def __init__(self):
        self.n = 0
        self.m = 0
        self.kind = []
        self.against = []

    def answer(self, call):
        name = call[0][3:]
        for due, refusal in getattr(self, "refusals_" + name)(*call[1:]):
            if due():
                return [refusal]
        return getattr(self, "do_" + name)(*call[1:])

    def gone(self, states, articles=()):
        due = any(i not in range(self.n) for i in states) or any(a not in range(self.m) for a in articles)
        return (lambda: due), -2

    def refusals_start(self, n, m):
        return [(lambda: n not in range(2, 7) or m not in range(1, 9), -22)]

    def do_start(self, n, m):
        self.n = n
        self.m = m
        self.kind = [[0] * m for i in range(n)]
        self.against = [[[0] * n for a in range(m)] for i in range(n)]
        return [0]

    def refusals_reserve(self, i, a, k):
        return [self.gone([i], [a]), (lambda: k not in (1, 2, 3, 4), -22), (lambda: self.kind[i][a] == k, -17)]

    def do_reserve(self, i, a, k):
        was = self.kind[i][a]
        self.kind[i][a] = k
        self.against[i][a] = [0] * self.n
        return [was]

    def refusals_withdraw(self, i, a):
        return [self.gone([i], [a]), (lambda: self.kind[i][a] == 0, -6)]

    def do_withdraw(self, i, a):
        return self.do_reserve(i, a, 0)

    def refusals_object(self, j, i, a, x):
        return [self.gone([j, i], [a]), (lambda: j == i, -22), (lambda: x not in (1, 2), -22),
                (lambda: self.kind[i][a] == 0, -6), (lambda: self.against[i][a][j] == x, -17)]

    def do_object(self, j, i, a, x):
        was = self.against[i][a][j]
        self.against[i][a][j] = x
        return [was]

    def refusals_accept(self, j, i, a):
        return [self.gone([j, i], [a]), (lambda: self.against[i][a][j] == 0, -6)]

    def do_accept(self, j, i, a):
        return self.do_object(j, i, a, 0)

    def number_against(self, i):
        return sum(x != 0 for row in self.against[i] for x in row)

    def refusals_accept_all(self, i):
        return [self.gone([i]), (lambda: self.number_against(i) == 0, -17)]

    def do_accept_all(self, i):
        was = self.number_against(i)
        self.against[i] = [[0] * self.n for a in range(self.m)]
        return [was]

    def refusals_between(self, i, j, a):
        return [self.gone([i, j], [a]), (lambda: i == j, -22)]

    def do_between(self, i, j, a):
        if self.do_related(i, j) == [0]:
            return [9]
        if self.against[i][a][j] or self.against[j][a][i]:
            return [1]
        kinds = {self.kind[i][a], self.kind[j][a]} - {0}
        return [0 if not kinds else 1 if len(kinds) == 2 else max(kinds)]

    def refusals_whole(self, i, j):
        return [self.gone([i, j]), (lambda: i == j, -22)]

    def do_whole(self, i, j):
        row = [self.do_between(i, j, a)[0] for a in range(self.m)]
        return [row.count(0)] + row + [0] * (8 - self.m)

    def refusals_related(self, i, j):
        return self.refusals_whole(i, j)

    def do_related(self, i, j):
        return [int(all(2 not in (self.against[i][a][j], self.against[j][a][i]) for a in range(self.m)))]

    def refusals_told(self, i):
        return [self.gone([i])]

    def do_told(self, i):
        return [sum(k != 0 for k in self.kind[i])] + self.kind[i] + [0] * (8 - self.m)

    def refusals_objected(self, i):
        return [self.gone([i])]

    def do_objected(self, i):
        return [self.number_against(i), sum(row[i] != 0 for rows in self.against for row in rows)]
