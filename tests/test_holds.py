"""What holds (a to e), and many lines held against the reference."""

import random
import unittest
from fractions import Fraction

from lines import ask, last
from reference import Reference


def made_table(chance, n):
    while True:
        row = [chance.choice((0, 0, 1, 2, 3, 6, 9)) for count in range(n * n)]
        if all(any(row[i:i + n]) for i in range(0, n * n, n)):
            return row


def made_spread(chance, n):
    return [chance.randrange(1, 100)] + [chance.choice((0, chance.randrange(100))) for count in range(n - 1)]


def made_row(chance, tables, most):
    return [chance.randrange(tables) for count in range(chance.randrange(most + 1))]


def fractions(numbers):
    return [Fraction(above, below) for above, below in zip(numbers[::2], numbers[1::2])]


def told_fractions(told):
    return [fractions(numbers[1:]) for numbers in told]


def apart(first, second):
    return sum(max(0, a - b) for a, b in zip(first, second))


class HoldsTest(unittest.TestCase):
    def begun(self, chance):
        n = chance.randrange(1, 4)
        return n, [("begin", n)] + [("table", made_table(chance, n)) for count in range(3)]

    def test_a_no_farther_than_both_multiplied(self):
        chance = random.Random(1)
        for count in range(300):
            line = self.begun(chance)[1]
            first, second = made_row(chance, 3, 4), made_row(chance, 3, 4)
            told = ask(*line, ("delta", first), ("delta", second), ("delta", first + second))
            (one,), (other,), (both,) = told_fractions(told[len(line):])
            self.assertLessEqual(both, one * other)
            self.assertLessEqual(max(one, other, both), 1)

    def test_a_chances_stay_chances(self):
        chance = random.Random(2)
        for count in range(300):
            n, line = self.begun(chance)
            row = made_row(chance, 3, 8)
            told = ask(*line, ("word", row), ("chances_from", n - 1, row), ("spread", made_spread(chance, n), row))
            word, one, spread = told_fractions(told[len(line):])
            for chances in [word[i:i + n] for i in range(0, n * n, n)] + [one, spread]:
                self.assertEqual(sum(chances), 1)
                self.assertGreaterEqual(min(chances), 0)

    def test_d_spreads_come_no_farther_apart(self):
        chance = random.Random(3)
        for count in range(300):
            n, line = self.begun(chance)
            row, one, other = made_row(chance, 3, 8), made_spread(chance, n), made_spread(chance, n)
            told = ask(*line, ("delta", row), ("spread", one, []), ("spread", other, []),
                       ("spread", one, row), ("spread", other, row))
            (delta,), one, other, one_behind, other_behind = told_fractions(told[len(line):])
            self.assertLessEqual(apart(one_behind, other_behind), delta * apart(one, other))


class ForgottenTest(unittest.TestCase):
    """Tables with many zeros, for others forget at once."""

    def begun(self, chance):
        n = chance.randrange(2, 4)
        tables = []
        for count in range(chance.randrange(1, 4)):
            rows = [[0] * n for place in range(n)]
            for row in rows:
                for weight in range(chance.choice((1, 1, 1, 2))):
                    row[chance.randrange(n)] = chance.randrange(1, 10)
            tables.append(("table", sum(rows, [])))
        return [("begin", n)] + tables

    def test_b_forgotten_just_if_all_have_something_in_common(self):
        chance = random.Random(5)
        seen = {}
        for count in range(1500):
            line = self.begun(chance)
            steps, kept, *begun = ask(*line, ("steps",), ("kept",), *[("begun", m) for m in range(21)])[len(line):]
            seen[steps[0]] = True
            self.assertEqual(steps == [-33], kept != [-33])
            fewest = 21 if steps == [-33] else steps[0]
            self.assertEqual([numbers[0] > 0 for numbers in begun], [m < fewest for m in range(21)])
            for m, (farthest,) in enumerate(told_fractions(ask(*line, *[("most", m) for m in range(4)])[len(line):])):
                self.assertEqual(farthest == 1, m < fewest)
        self.assertTrue({-33, 1, 2, 3, 4} <= set(seen), seen)

    def test_c_what_is_told_keeps_two_apart_for_ever(self):
        chance = random.Random(6)
        longest = 0
        for count in range(1500):
            line = self.begun(chance)
            kept = last(*line, ("kept",))
            if kept == [-33]:
                continue
            first, second, ahead = kept[:3]
            tables, turn = kept[3:3 + ahead], kept[4 + ahead:]
            self.assertLess(first, second)
            self.assertEqual(len(turn), kept[3 + ahead])
            self.assertGreater(len(turn), 0)
            longest = max(longest, ahead)
            reference = Reference()
            for call in line:
                reference.answer(*call)
            chances = reference.chances(tables + turn * 5)
            self.assertEqual(apart(chances[first], chances[second]), 1)
            self.assertEqual(last(*line, ("far", first, second, (tables + turn * 8)[:8])), [0, 1, 1])
        self.assertGreater(longest, 1)


class BackTest(unittest.TestCase):
    LOOKS = [("show", 0), ("show", 1), ("show", 2), ("delta", []), ("most", 2), ("steps",), ("kept",), ("begun", 5)]

    def made_change(self, chance, n):
        name = chance.choice(("table", "cell", "cell", "drop"))
        if name == "table":
            return (name, made_table(chance, n))
        if name == "drop":
            return (name, chance.randrange(3))
        return (name, chance.randrange(3), chance.randrange(n), chance.randrange(n), chance.choice((0, 0, 1, 9)))

    def test_e_taken_back_all_is_as_it_was(self):
        chance = random.Random(7)
        for count in range(200):
            n = chance.randrange(1, 4)
            line = [("begin", n)] + [self.made_change(chance, n) for change in range(20)]
            told = ask(*line)
            made = [at for at in range(1, len(line)) if told[at][0] >= 0]
            for taken, at in enumerate(reversed(made[-10:]), start=1):
                left = min(10, len(made)) - taken
                behind = ask(*line, *[("back",)] * taken, *self.LOOKS)[-len(self.LOOKS) - 1:]
                self.assertEqual(behind, [[left]] + ask(*line[:at], *self.LOOKS)[-len(self.LOOKS):])


class RefusedTest(unittest.TestCase):
    def test_e_what_is_refused_changes_nothing(self):
        line = [("begin", 2), ("table", [1, 2, 3, 4]), ("table", [5, 0, 0, 6]), ("table", [0, 7, 8, 9])]
        shows = [("show", 0), ("show", 1), ("show", 2), ("show", 3), ("word", []), ("state",), ("kept",), ("back",)]
        before = ask(*line, *shows)[len(line):]
        refused = [
            (("begin", 0), -22), (("begin", 4), -22), (("table", [1, 1, 1, 1]), -28), (("table", [0, 0, 1, 1]), -22),
            (("cell", 3, 0, 0, 1), -2), (("cell", 0, 2, 0, 1), -2), (("cell", 0, 0, 2, 1), -2),
            (("cell", 0, 0, 0, 10), -22), (("cell", 1, 0, 0, 0), -16), (("drop", 3), -2), (("show", 3), -2),
            (("word", [3]), -2), (("word", [0] * 9), -22), (("chances_from", 2, []), -2),
            (("spread", [0, 0], []), -22), (("far", 0, 2, []), -2), (("delta", [3]), -2),
            (("worst", [3]), -2), (("worst", [0] * 9), -22), (("mixes", [3]), -2), (("mixes", [0] * 9), -22),
            (("most", 4), -22), (("begun", 21), -22), (("stays", 3, [1, 1]), -2), (("stays", 0, [0, 0]), -22),
        ]
        for call, number in refused:
            with self.subTest(call=call):
                self.assertEqual(ask(*line, call, *shows)[len(line):], [[number]] + before)


class ReferenceTest(unittest.TestCase):
    NAMES = (
        "begin", "table", "table", "table", "table", "cell", "cell", "drop", "show", "word", "chances_from", "spread",
        "far", "delta", "worst", "most", "mixes", "steps", "kept", "begun", "stays", "back", "state",
    )
    # Of each call the refusals that it has beside -11; begin has that not.
    REFUSALS = {
        "begin": [-22], "table": [-22, -28], "cell": [-2, -22, -16], "drop": [-2], "show": [-2], "word": [-2, -22],
        "chances_from": [-2, -22], "spread": [-2, -22], "far": [-2, -22], "delta": [-2, -22], "worst": [-2, -22, -33],
        "most": [-22], "mixes": [-2, -22], "steps": [-33], "kept": [-33], "begun": [-22], "stays": [-2, -22],
        "back": [-6], "state": [],
    }

    def made_row(self, chance):
        size = chance.choice((0, 1, 2, 3, 8, 9))
        most = chance.choice((1, 1, 2, 2, 3, 4))
        return [chance.randrange(most) for count in range(size)]

    def made_table(self, chance):
        size = chance.choice((1, 4, 4, 9, 9, chance.randrange(17)))
        weights = chance.choice(((0, 1, 2, 4, 6, 9, 9, 10, 65535), (0, 1, 9), (0, 0, 1, 3)))
        return [chance.choice(weights) for count in range(size)]

    def made_call(self, chance):
        name = chance.choice(self.NAMES)
        if name == "begin":
            return (name, chance.randrange(5)) if chance.randrange(3) == 0 else ("delta", self.made_row(chance))
        if name == "table":
            return (name, self.made_table(chance))
        if name == "cell":
            return (name, *[chance.choice((0, 0, 1, 1, 2, 3)) for count in range(3)], chance.choice((0, 0, 1, 5, 9, 10)))
        if name in ("drop", "show"):
            return (name, chance.randrange(4))
        if name in ("most", "begun"):
            return (name, chance.choice((0, 1, 2, 3, 4, 20, 21)))
        if name in ("steps", "kept", "back", "state"):
            return (name,)
        if name in ("spread", "stays"):
            weights = [chance.choice((0, 0, 1, 50, 99, 100)) for count in range(chance.randrange(1, 5))]
            return (name, weights, self.made_row(chance)) if name == "spread" else (name, chance.randrange(4), weights)
        places = {"chances_from": 1, "far": 2}.get(name, 0)
        return (name, *[chance.choice((0, 1, 1, 2, 3)) for count in range(places)], self.made_row(chance))

    def test_lines_against_the_reference(self):
        chance = random.Random(4)
        seen = {}
        for count in range(600):
            calls = [("begin", chance.randrange(1, 4))] if chance.randrange(8) else []
            calls += [self.made_call(chance) for count in range(40)]
            reference = Reference()
            for call, told in zip(calls, ask(*calls), strict=True):
                self.assertEqual(told, reference.answer(*call), (call, calls))
                seen[call[0], min(told[0], 0)] = True
        wanted = {(name, number) for name in self.NAMES for number in (0, -11, *self.REFUSALS[name])}
        self.assertEqual(set(seen), wanted - {("begin", -11)})


if __name__ == "__main__":
    unittest.main()
