"""The promises once more, written another way (with Python's fractions), to be held against the program."""

from fractions import Fraction
from itertools import combinations


def product(first, second):
    places = range(len(first))
    return [[sum(first[i][m] * second[m][j] for m in places) for j in places] for i in places]


def distance(first, second):
    return sum(abs(a - b) for a, b in zip(first, second)) / 2


def pairs(chances):
    return [number for chance in chances for number in Fraction(chance).as_integer_ratio()]


class Reference:
    def __init__(self):
        self.n = None
        self.tables = []

    def answer(self, name, *arguments):
        if name != "begin" and self.n is None:
            return [-11]
        return getattr(self, name)(*arguments)

    def chances(self, row):
        matrix = [[Fraction(i == j) for j in range(self.n)] for i in range(self.n)]
        for k in row:
            flat = self.tables[k]
            lines = [flat[i * self.n:(i + 1) * self.n] for i in range(self.n)]
            matrix = product(matrix, [[Fraction(w, sum(line)) for w in line] for line in lines])
        return matrix

    def refused(self, row, places=()):
        if any(k not in range(len(self.tables)) for k in row) or any(i not in range(self.n) for i in places):
            return [-2]
        return [-22] if len(row) > 8 else None

    def begin(self, n):
        if n not in (1, 2, 3):
            return [-22]
        self.n, self.tables = n, []
        return [0]

    def table(self, row):
        n = self.n
        if len(row) != n * n or any(w > 9 for w in row) or not all(any(row[i:i + n]) for i in range(0, n * n, n)):
            return [-22]
        if len(self.tables) >= 3:
            return [-28]
        self.tables.append(list(row))
        return [len(self.tables) - 1]

    def cell(self, k, i, j, v):
        if self.refused([k], [i, j]):
            return [-2]
        if v > 9:
            return [-22]
        flat, begin = self.tables[k], i * self.n
        if v == 0 and sum(flat[begin:begin + self.n]) == flat[begin + j]:
            return [-16]
        old, flat[begin + j] = flat[begin + j], v
        return [old]

    def drop(self, k):
        if self.refused([k]):
            return [-2]
        del self.tables[k]
        return [len(self.tables)]

    def show(self, k):
        return self.refused([k]) or [self.n ** 2, *self.tables[k]]

    def word(self, row):
        return self.refused(row) or [self.n ** 2, *pairs(sum(self.chances(row), []))]

    def chances_from(self, i, row):
        return self.refused(row, [i]) or [self.n, *pairs(self.chances(row)[i])]

    def spread(self, weights, row):
        if self.refused(row):
            return self.refused(row)
        if len(weights) != self.n or any(w > 99 for w in weights) or not any(weights):
            return [-22]
        matrix = self.chances(row)
        chances = [sum(Fraction(w, sum(weights)) * matrix[i][j] for i, w in enumerate(weights)) for j in range(self.n)]
        return [self.n, *pairs(chances)]

    def far(self, i, j, row):
        if self.refused(row, [i, j]):
            return self.refused(row, [i, j])
        matrix = self.chances(row)
        return [0, *pairs([distance(matrix[i], matrix[j])])]

    def delta(self, row):
        if self.refused(row):
            return self.refused(row)
        return [0, *pairs([max((distance(a, b) for a, b in combinations(self.chances(row), 2)), default=0)])]
