"""The object that a list of calls is told to: places, and tables of weights between them."""

from forgottenplaces.chances import (
    all_at, apart, are_the_same, behind_row, behind_row_of_each, behind_table, farthest, farthest_of_steps,
    farthest_two, fractions_of,
)
from forgottenplaces.keeping import apart_for_ever, begun_apart, steps_till_forgotten, told_tables

NO_SUCH = -2
NO_CHANGE = -6
NOT_BEGUN = -11
WITHOUT_WEIGHT = -16
NOT_AS_TOLD = -22
TOO_MANY = -28
NONE_OR_NEVER = -33

MOST_PLACES = 3
MOST_TABLES = 3
MOST_IN_ROW = 8
MOST_WEIGHT = 9
MOST_SPREAD_WEIGHT = 99
MOST_STEPS_FARTHEST = 3
MOST_STEPS_BEGUN = 20
MOST_BACK = 10


def are_weights(weights, n, most):
    return len(weights) == n and max(weights) <= most and sum(weights) > 0


def parts_of(row, n):
    """The row cut into parts of n numbers; the last one may be shorter."""
    return [row[at:at + n] for at in range(0, len(row), n)]


def replaced(numbers, at, value):
    return tuple([value if k == at else old for k, old in enumerate(numbers)])


class Places:
    """Each call gives back the list of numbers that is answered; a refusal is its number alone.

    A table is never changed in place: a change puts a new tuple, and a new list of tables, there. So the lists
    as they were ahead of the last changes can be kept, the last one at the end, and be put back.
    """

    def __init__(self):
        self.n = 0
        self.tables = []
        self.earlier = []

    def is_begun(self):
        return self.n > 0

    def begin(self, n):
        if n < 1 or n > MOST_PLACES:
            return [NOT_AS_TOLD]
        self.n = n
        self.tables = []
        self.earlier = []
        return [0]

    def back(self):
        if not self.earlier:
            return [NO_CHANGE]
        self.tables = self.earlier[-1]
        self.earlier = self.earlier[:-1]
        return [len(self.earlier)]

    def state(self):
        return [self.n, len(self.tables), len(self.earlier)]

    def table(self, row):
        parts = parts_of(row, self.n)
        if len(parts) != self.n or not all([are_weights(part, self.n, MOST_WEIGHT) for part in parts]):
            return [NOT_AS_TOLD]
        if len(self.tables) == MOST_TABLES:
            return [TOO_MANY]
        self.change_to(self.tables + [tuple([tuple(part) for part in parts])])
        return [len(self.tables) - 1]

    def cell(self, k, i, j, v):
        if self.lacks([k], [i, j]):
            return [NO_SUCH]
        if v > MOST_WEIGHT:
            return [NOT_AS_TOLD]
        old = self.tables[k]
        weights = replaced(old[i], j, v)
        if sum(weights) == 0:
            return [WITHOUT_WEIGHT]
        self.change_to(list(replaced(self.tables, k, replaced(old, i, weights))))
        return [old[i][j]]

    def drop(self, k):
        if self.lacks([k], []):
            return [NO_SUCH]
        self.change_to(self.tables[:k] + self.tables[k + 1:])
        return [len(self.tables)]

    def show(self, k):
        if self.lacks([k], []):
            return [NO_SUCH]
        answer = [self.n * self.n]
        for weights in self.tables[k]:
            answer.extend(weights)
        return answer

    def word(self, row):
        refusal = self.row_refusal(row, [])
        if refusal:
            return refusal
        answer = [self.n * self.n]
        for spread in behind_row_of_each(self.n, self.tables_of(row)):
            answer.extend(fractions_of(spread))
        return answer

    def chances_from(self, i, row):
        refusal = self.row_refusal(row, [i])
        if refusal:
            return refusal
        return self.chances_behind(all_at(i, self.n), row)

    def spread(self, weights, row):
        refusal = self.row_refusal(row, [])
        if refusal:
            return refusal
        if not are_weights(weights, self.n, MOST_SPREAD_WEIGHT):
            return [NOT_AS_TOLD]
        return self.chances_behind(weights, row)

    def stays(self, k, weights):
        if self.lacks([k], []):
            return [NO_SUCH]
        if not are_weights(weights, self.n, MOST_SPREAD_WEIGHT):
            return [NOT_AS_TOLD]
        return [1 if are_the_same(weights, behind_table(weights, self.tables[k])) else 0]

    def far(self, i, j, row):
        refusal = self.row_refusal(row, [i, j])
        if refusal:
            return refusal
        behind = behind_row_of_each(self.n, self.tables_of(row))
        return [0] + apart(behind[i], behind[j])

    def delta(self, row):
        refusal = self.row_refusal(row, [])
        if refusal:
            return refusal
        return [0] + farthest(behind_row_of_each(self.n, self.tables_of(row)))

    def worst(self, row):
        refusal = self.row_refusal(row, [])
        if refusal:
            return refusal
        if self.n == 1:
            return [NONE_OR_NEVER]
        return list(farthest_two(behind_row_of_each(self.n, self.tables_of(row))))

    def mixes(self, row):
        refusal = self.row_refusal(row, [])
        if refusal:
            return refusal
        return [0 if farthest(behind_row_of_each(self.n, self.tables_of(row))) == [1, 1] else 1]

    def most(self, m):
        if m > MOST_STEPS_FARTHEST:
            return [NOT_AS_TOLD]
        return [0] + farthest_of_steps(self.n, self.tables, m)

    def steps(self):
        fewest = steps_till_forgotten(self.n, self.tables)
        return [NONE_OR_NEVER if fewest is None else fewest]

    def begun(self, m):
        if m > MOST_STEPS_BEGUN:
            return [NOT_AS_TOLD]
        twos = begun_apart(self.n, self.tables, m)
        answer = [len(twos)]
        for two in twos:
            answer.extend(two)
        return answer

    def kept(self):
        two = apart_for_ever(self.n, self.tables)
        if two is None:
            return [NONE_OR_NEVER]
        answer = list(two)
        for row in told_tables(self.n, self.tables, two):
            answer.append(len(row))
            answer.extend(row)
        return answer

    def change_to(self, tables):
        self.earlier = (self.earlier + [self.tables])[-MOST_BACK:]
        self.tables = tables

    def lacks(self, tables, places):
        """Whether one of the told tables or places isn't there."""
        return any([k >= len(self.tables) for k in tables]) or any([i >= self.n for i in places])

    def row_refusal(self, row, places):
        """What is answered in the place of the call's own answer; empty where nothing is refused."""
        if self.lacks(row, places):
            return [NO_SUCH]
        if len(row) > MOST_IN_ROW:
            return [NOT_AS_TOLD]
        return []

    def tables_of(self, row):
        return [self.tables[k] for k in row]

    def chances_behind(self, weights, row):
        return [self.n] + fractions_of(behind_row(weights, self.tables_of(row)))
