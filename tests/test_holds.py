"""What holds (a, d, e of these calls), and many lines held against the reference."""

import random
import unittest
from fractions import Fraction

from lines import ask
from reference import Reference


def made_table(chance, n):
    while True:
        row = [chance.choice((0, 0, 1, 2, 3, 6, 9)) for count in range(n * n)]
        if all(any(row[i:i + n]) for i in range(0, n * n, n)):
            return row


def made_spread(chance, n):
    return [chance.randrange(1, 100)] + [chance.choice((0, chance.randrange(100))) for count in range(n - 1)]


def made_row(chance, tables, most):
    return [chance.randrange(tables) for count in range(chance.randrange(most + 1))]


def fractions(numbers):
    return [Fraction(above, below) for above, below in zip(numbers[::2], numbers[1::2])]


def told_fractions(told):
    return [fractions(numbers[1:]) for numbers in told]


def apart(first, second):
    return sum(max(0, a - b) for a, b in zip(first, second))


class HoldsTest(unittest.TestCase):
    def begun(self, chance):
        n = chance.randrange(1, 4)
        return n, [("begin", n)] + [("table", made_table(chance, n)) for count in range(3)]

    def test_a_no_farther_than_both_multiplied(self):
        chance = random.Random(1)
        for count in range(300):
            line = self.begun(chance)[1]
            first, second = made_row(chance, 3, 4), made_row(chance, 3, 4)
            told = ask(*line, ("delta", first), ("delta", second), ("delta", first + second))
            (one,), (other,), (both,) = told_fractions(told[len(line):])
            self.assertLessEqual(both, one * other)
            self.assertLessEqual(max(one, other, both), 1)

    def test_a_chances_stay_chances(self):
        chance = random.Random(2)
        for count in range(300):
            n, line = self.begun(chance)
            row = made_row(chance, 3, 8)
            told = ask(*line, ("word", row), ("chances_from", n - 1, row), ("spread", made_spread(chance, n), row))
            word, one, spread = told_fractions(told[len(line):])
            for chances in [word[i:i + n] for i in range(0, n * n, n)] + [one, spread]:
                self.assertEqual(sum(chances), 1)
                self.assertGreaterEqual(min(chances), 0)

    def test_d_spreads_come_no_farther_apart(self):
        chance = random.Random(3)
        for count in range(300):
            n, line = self.begun(chance)
            row, one, other = made_row(chance, 3, 8), made_spread(chance, n), made_spread(chance, n)
            told = ask(*line, ("delta", row), ("spread", one, []), ("spread", other, []),
                       ("spread", one, row), ("spread", other, row))
            (delta,), one, other, one_behind, other_behind = told_fractions(told[len(line):])
            self.assertLessEqual(apart(one_behind, other_behind), delta * apart(one, other))


class RefusedTest(unittest.TestCase):
    def test_e_what_is_refused_changes_nothing(self):
        line = [("begin", 2), ("table", [1, 2, 3, 4]), ("table", [5, 0, 0, 6]), ("table", [0, 7, 8, 9])]
        shows = [("show", 0), ("show", 1), ("show", 2), ("show", 3), ("word", [])]
        before = ask(*line, *shows)[len(line):]
        refused = [
            (("begin", 0), -22), (("begin", 4), -22), (("table", [1, 1, 1, 1]), -28), (("table", [0, 0, 1, 1]), -22),
            (("cell", 3, 0, 0, 1), -2), (("cell", 0, 2, 0, 1), -2), (("cell", 0, 0, 2, 1), -2),
            (("cell", 0, 0, 0, 10), -22), (("cell", 1, 0, 0, 0), -16), (("drop", 3), -2), (("show", 3), -2),
            (("word", [3]), -2), (("word", [0] * 9), -22), (("chances_from", 2, []), -2),
            (("spread", [0, 0], []), -22), (("far", 0, 2, []), -2), (("delta", [3]), -2),
        ]
        for call, number in refused:
            with self.subTest(call=call):
                self.assertEqual(ask(*line, call, *shows)[len(line):], [[number]] + before)


class ReferenceTest(unittest.TestCase):
    NAMES = ("begin", "table", "table", "cell", "cell", "drop", "show", "word", "chances_from", "spread", "far", "delta")

    def made_row(self, chance):
        size = chance.choice((0, 1, 2, 3, 8, 9))
        most = chance.choice((1, 1, 2, 2, 3, 4))
        return [chance.randrange(most) for count in range(size)]

    def made_table(self, chance):
        size = chance.choice((1, 4, 4, 9, 9, chance.randrange(17)))
        return [chance.choice((0, 1, 2, 4, 6, 9, 9, chance.randrange(12))) for count in range(size)]

    def made_call(self, chance):
        name = chance.choice(self.NAMES)
        if name == "begin":
            return (name, chance.randrange(5)) if chance.randrange(3) == 0 else ("delta", self.made_row(chance))
        if name == "table":
            return (name, self.made_table(chance))
        if name == "cell":
            return (name, *[chance.choice((0, 0, 1, 1, 2, 3)) for count in range(3)], chance.choice((0, 0, 1, 5, 9, 10)))
        if name in ("drop", "show"):
            return (name, chance.randrange(4))
        if name == "spread":
            weights = [chance.choice((0, 0, 1, 50, 99, 100)) for count in range(chance.randrange(1, 5))]
            return (name, weights, self.made_row(chance))
        places = {"chances_from": 1, "far": 2}.get(name, 0)
        return (name, *[chance.choice((0, 1, 1, 2, 3)) for count in range(places)], self.made_row(chance))

    def test_lines_against_the_reference(self):
        chance = random.Random(4)
        seen = {}
        for count in range(600):
            calls = [("begin", chance.randrange(1, 4))] if chance.randrange(8) else []
            calls += [self.made_call(chance) for count in range(40)]
            reference = Reference()
            for call, told in zip(calls, ask(*calls), strict=True):
                self.assertEqual(told, reference.answer(*call), (call, calls))
                seen[call[0], min(told[0], 0)] = True
        wanted = {(name, number) for name in self.NAMES for number in (0, -2, -22, -11)}
        wanted -= {("begin", -2), ("begin", -11), ("table", -2), ("drop", -22), ("show", -22)}
        self.assertEqual(set(seen), wanted | {("table", -28), ("cell", -16)})


if __name__ == "__main__":
    unittest.main()
