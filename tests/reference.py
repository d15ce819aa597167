"""The promises once more, written another way (with Python's fractions), to be held against the program."""

from fractions import Fraction
from itertools import combinations, product as rows_of


def product(first, second):
    places = range(len(first))
    return [[sum(first[i][m] * second[m][j] for m in places) for j in places] for i in places]


def distance(first, second):
    return sum(abs(a - b) for a, b in zip(first, second)) / 2


def pairs(chances):
    return [number for chance in chances for number in Fraction(chance).as_integer_ratio()]


class Reference:
    # Where two may be is one of 12 at most, so what lasts 12 steps has come back to one of them and lasts for ever.
    LONG = 12

    def __init__(self):
        self.n = None
        self.tables = []
        self.past = []

    def answer(self, name, *arguments):
        if name != "begin" and self.n is None:
            return [-11]
        before = [list(flat) for flat in self.tables]
        told = getattr(self, name)(*arguments)
        if name in ("table", "cell", "drop") and told[0] >= 0:
            self.past.append(before)
            self.past = self.past[-10:]
        return told

    def chances(self, row):
        matrix = [[Fraction(i == j) for j in range(self.n)] for i in range(self.n)]
        for k in row:
            flat = self.tables[k]
            lines = [flat[i * self.n:(i + 1) * self.n] for i in range(self.n)]
            matrix = product(matrix, [[Fraction(w, sum(line)) for w in line] for line in lines])
        return matrix

    def refused(self, row, places=()):
        if any(k not in range(len(self.tables)) for k in row) or any(i not in range(self.n) for i in places):
            return [-2]
        return [-22] if len(row) > 8 else None

    def begin(self, n):
        if n not in (1, 2, 3):
            return [-22]
        self.n, self.tables, self.past = n, [], []
        return [0]

    def back(self):
        if not self.past:
            return [-6]
        self.tables = self.past.pop()
        return [len(self.past)]

    def state(self):
        return [self.n, len(self.tables), len(self.past)]

    def table(self, row):
        n = self.n
        if len(row) != n * n or any(w > 9 for w in row) or not all(any(row[i:i + n]) for i in range(0, n * n, n)):
            return [-22]
        if len(self.tables) >= 3:
            return [-28]
        self.tables.append(list(row))
        return [len(self.tables) - 1]

    def cell(self, k, i, j, v):
        if self.refused([k], [i, j]):
            return [-2]
        if v > 9:
            return [-22]
        flat, begin = self.tables[k], i * self.n
        if v == 0 and sum(flat[begin:begin + self.n]) == flat[begin + j]:
            return [-16]
        old, flat[begin + j] = flat[begin + j], v
        return [old]

    def drop(self, k):
        if self.refused([k]):
            return [-2]
        del self.tables[k]
        return [len(self.tables)]

    def show(self, k):
        return self.refused([k]) or [self.n ** 2, *self.tables[k]]

    def word(self, row):
        return self.refused(row) or [self.n ** 2, *pairs(sum(self.chances(row), []))]

    def chances_from(self, i, row):
        return self.refused(row, [i]) or [self.n, *pairs(self.chances(row)[i])]

    def is_spread(self, weights):
        return len(weights) == self.n and all(w <= 99 for w in weights) and any(weights)

    def spread_behind(self, weights, row):
        matrix = self.chances(row)
        return [sum(Fraction(w, sum(weights)) * matrix[i][j] for i, w in enumerate(weights)) for j in range(self.n)]

    def spread(self, weights, row):
        if self.refused(row):
            return self.refused(row)
        if not self.is_spread(weights):
            return [-22]
        return [self.n, *pairs(self.spread_behind(weights, row))]

    def stays(self, k, weights):
        if self.refused([k]):
            return [-2]
        if not self.is_spread(weights):
            return [-22]
        return [int(self.spread_behind(weights, [k]) == self.spread_behind(weights, []))]

    def far(self, i, j, row):
        if self.refused(row, [i, j]):
            return self.refused(row, [i, j])
        matrix = self.chances(row)
        return [0, *pairs([distance(matrix[i], matrix[j])])]

    def farthest(self, row):
        return max((distance(a, b) for a, b in combinations(self.chances(row), 2)), default=0)

    def delta(self, row):
        return self.refused(row) or [0, *pairs([self.farthest(row)])]

    def worst(self, row):
        if self.refused(row):
            return self.refused(row)
        matrix = self.chances(row)
        twos = sorted(combinations(range(self.n), 2), key=lambda two: -distance(matrix[two[0]], matrix[two[1]]))
        return list(twos[0]) if twos else [-33]

    def mixes(self, row):
        return self.refused(row) or [int(self.farthest(row) < 1)]

    def most(self, m):
        if m > 3:
            return [-22]
        rows = rows_of(range(len(self.tables)), repeat=m)
        return [0, *pairs([max(map(self.farthest, rows), default=0)])]

    def brought(self, both, k):
        flat = self.tables[k]
        return tuple(frozenset(j for i in part for j in range(self.n) if flat[i * self.n + j]) for part in both)

    def lasts(self, both, m):
        """Whether some m tables bring this to where nothing is in common."""
        level = {both}
        for count in range(m):
            level = {self.brought(one, k) for one in level for k in range(len(self.tables))}
        return any(not first & second for first, second in level)

    def begun_twos(self, m):
        twos = combinations(range(self.n), 2)
        return [(i, j) for i, j in twos if self.lasts((frozenset([i]), frozenset([j])), m)]

    def steps(self):
        return next(([m] for m in range(self.LONG + 1) if not self.begun_twos(m)), [-33])

    def begun(self, m):
        if m > 20:
            return [-22]
        twos = self.begun_twos(m)
        return [len(twos), *sum(twos, ())]

    def kept(self):
        twos = self.begun_twos(self.LONG)
        if not twos:
            return [-33]
        passed, row = [tuple(frozenset([place]) for place in twos[0])], []
        while passed[-1] not in passed[:-1]:
            goes_on = (k for k in range(len(self.tables)) if self.lasts(self.brought(passed[-1], k), self.LONG))
            row.append(next(goes_on))
            passed.append(self.brought(passed[-1], row[-1]))
        ahead = passed.index(passed[-1])
        return [*twos[0], ahead, *row[:ahead], len(row) - ahead, *row[ahead:]]
