"""Which places have nothing in common behind some steps, and which can be kept apart for ever.

Chances don't matter for that, only where one may be: a tuple of places, in their order.
Where two may be is a tuple of two of these, without a place in common.
The ways on are a dict: where two may be, with what each table brings that to, table by table.
"""

from forgottenplaces.chances import twos_of


def parts_of_places(n):
    """Every tuple of places, in their order, but the empty one."""
    parts = [()]
    for place in range(n):
        parts = parts + [part + (place,) for part in parts]
    return parts[1:]


def where_behind(part, table):
    return tuple([j for j in range(len(table)) if any([table[i][j] > 0 for i in part])])


def have_in_common(first, second):
    return any([place in second for place in first])


def ways_on(n, tables):
    ways = {}
    parts = parts_of_places(n)
    for first in parts:
        for second in parts:
            if not have_in_common(first, second):
                ways[(first, second)] = [(where_behind(first, table), where_behind(second, table)) for table in tables]
    return ways


def one_step_more(ways):
    """Of the ways on those alone that some table brings to one of them.

    With all ways at first, behind m such steps those are left that stay apart by some row of m tables.
    """
    left = {}
    for both, brought in ways.items():
        if any([other in ways for other in brought]):
            left[both] = brought
    return left


def ways_for_ever(n, tables):
    ways = ways_on(n, tables)
    left = one_step_more(ways)
    while len(left) < len(ways):
        ways = left
        left = one_step_more(ways)
    return ways


def beginning(two):
    return ((two[0],), (two[1],))


def twos_left(n, ways):
    return [two for two in twos_of(n) if beginning(two) in ways]


def begun_apart(n, tables, steps):
    """The twos of places that have nothing in common by some row of so many tables."""
    ways = ways_on(n, tables)
    while steps > 0:
        ways = one_step_more(ways)
        steps -= 1
    return twos_left(n, ways)


def apart_for_ever(n, tables):
    """The first two places that can be kept apart for ever; None where there are none."""
    twos = twos_left(n, ways_for_ever(n, tables))
    return twos[0] if twos else None


def steps_till_forgotten(n, tables):
    """The fewest steps behind which it's forgotten; None where it never is."""
    # Two that can't be kept apart for ever have something in common at last, so the loop comes to an end.
    if apart_for_ever(n, tables) is not None:
        return None
    ways = ways_on(n, tables)
    steps = 0
    while twos_left(n, ways):
        ways = one_step_more(ways)
        steps += 1
    return steps


def told_tables(n, tables, two):
    """The tables that keep the two apart for ever: those ahead, then those of the round."""
    ways = ways_for_ever(n, tables)
    both = beginning(two)
    row = []
    how_many_ahead = {}
    while both not in how_many_ahead:
        how_many_ahead[both] = len(row)
        # Every way left goes on for ever by some table.
        least = [k for k, other in enumerate(ways[both]) if other in ways][0]
        row.append(least)
        both = ways[both][least]
    ahead = how_many_ahead[both]
    return [row[:ahead], row[ahead:]]
