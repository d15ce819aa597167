"""Exact chances, kept as whole weights.

A spread is a list of weights, one a place, not all 0: a place is as likely as its weight by all weights.
A table is a tuple with such weights, also as a tuple, for each place that one goes from.
A fraction is a list of two whole numbers with nothing in common, above and below.
"""


def greatest_common(first, second):
    while second != 0:
        rest = first % second
        first = second
        second = rest
    return first


def fraction(above, below):
    common = greatest_common(above, below)
    return [above // common, below // common]


def is_greater(first, second):
    return first[0] * second[1] > second[0] * first[1]


def all_at(place, n):
    return [1 if other == place else 0 for other in range(n)]


def behind_table(spread, table):
    # Each place's weights have another sum; brought to the product of all sums they can be added.
    product = 1
    for weights in table:
        product *= sum(weights)
    behind = [0] * len(spread)
    for i, weights in enumerate(table):
        share = spread[i] * (product // sum(weights))
        behind = [behind[j] + share * weight for j, weight in enumerate(weights)]
    return behind


def behind_row(spread, tables):
    for table in tables:
        spread = behind_table(spread, table)
    return spread


def behind_row_of_each(n, tables):
    return [behind_row(all_at(place, n), tables) for place in range(n)]


def fractions_of(spread):
    """The chance of each place, as a flat list of fractions."""
    below = sum(spread)
    flat = []
    for weight in spread:
        flat.extend(fraction(weight, below))
    return flat


def apart(first, second):
    """How far apart two spreads are, a fraction."""
    first_sum = sum(first)
    second_sum = sum(second)
    more = 0
    for one, other in zip(first, second):
        more += max(0, one * second_sum - other * first_sum)
    return fraction(more, first_sum * second_sum)


def are_the_same(first, second):
    """Whether two spreads tell the same chances, be it in other weights."""
    return apart(first, second) == [0, 1]


def twos_of(n):
    """Each two of n places, the lesser first: by the lesser, then by the other one."""
    twos = []
    for i in range(n):
        twos.extend([(i, j) for j in range(i + 1, n)])
    return twos


def farthest_two(spreads):
    """The first two of the spreads, 2 or more, that are the farthest apart."""
    # Either order of two spreads gives the same, so each two is looked at once.
    twos = twos_of(len(spreads))
    found = twos[0]
    greatest = apart(spreads[found[0]], spreads[found[1]])
    for two in twos:
        here = apart(spreads[two[0]], spreads[two[1]])
        if is_greater(here, greatest):
            found = two
            greatest = here
    return found


def farthest(spreads):
    """The greatest that any two of the spreads are apart, a fraction."""
    if len(spreads) == 1:
        return [0, 1]
    two = farthest_two(spreads)
    return apart(spreads[two[0]], spreads[two[1]])


def rows_of(tables, steps):
    """Every row of so many tables."""
    rows = [[]]
    while steps > 0:
        longer = []
        for row in rows:
            longer.extend([row + [table] for table in tables])
        rows = longer
        steps -= 1
    return rows


def farthest_of_steps(n, tables, steps):
    """The greatest of the farthest by every row of so many tables, a fraction; 0 where there's no such row."""
    greatest = [0, 1]
    for row in rows_of(tables, steps):
        here = farthest(behind_row_of_each(n, row))
        if is_greater(here, greatest):
            greatest = here
    return greatest
