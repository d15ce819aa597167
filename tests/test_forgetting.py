"""Promise 4 (worst, mixes, most) and promise 5 (steps, begun, kept)."""

import unittest

from forgottenplaces.tables import answers
from lines import ask, last

ONE = ("begin", 1)
TWO = ("begin", 2)
THREE = ("begin", 3)
HALVES = ("table", [2, 2, 1, 3])
EXCHANGE = ("table", [0, 1, 1, 0])
STAY = ("table", [4, 0, 0, 9])
ROUND = ("table", [0, 1, 0, 0, 0, 1, 1, 0, 0])
MIXED = ("table", [1] * 9)
# Each forgets behind 2 steps; in turn they don't.
IN_TURN = [("table", [1, 1, 0, 0, 0, 1, 1, 0, 1]), ("table", [1, 0, 0, 1, 0, 0, 0, 1, 0])]
# From 0 and 1 table 0 leads to where table 1 alone goes on.
AHEAD = [("table", [0, 1, 1, 1, 0, 1, 0, 1, 0]), ("table", [0, 0, 1, 1, 0, 0, 0, 1, 0])]
STEPS = ("steps",)
KEPT = ("kept",)


class ToldTest(unittest.TestCase):
    """Lines with what the document asks there, number by number."""

    def test_no_tables(self):
        self.assertEqual(answers([0, 2, 11, 0, 11, 1, 13, 15, 0, 15, 1, 14, 18, 17]),
                         [1, 0, 3, 0, 1, 1, 3, 0, 0, 1, 1, 1, 3, 1, 0, 1, 1, 0, 1, -33, 3, 2, 0, 0, 1, -6])

    def test_one_place(self):
        self.assertEqual(answers([0, 1, 13, 14, 10, 0, 12, 0, 11, 0, 15, 0]),
                         [1, 0, 1, 0, 1, -33, 1, -33, 1, 1, 3, 0, 0, 1, 1, 0])

    def test_a_place_that_exchanges_with_another(self):
        self.assertEqual(
            answers([0, 2, 1, 4, 0, 1, 1, 0, 13, 14, 15, 20, 15, 21, 16, 0, 2, 3, 3, 16, 0, 2, 3, 4]),
            [1, 0, 1, 0, 1, -33, 6, 0, 1, 0, 2, 0, 0, 3, 1, 0, 1, 1, -22, 1, 1, 1, 0])

    def test_tables_ahead_then_the_round(self):
        self.assertEqual(
            answers([0, 3, 1, 9, 0, 1, 1, 1, 0, 1, 0, 1, 0, 1, 9, 0, 0, 1, 1, 0, 0, 0, 1, 0, 13, 14]),
            [1, 0, 1, 0, 1, 1, 1, -33, 10, 0, 1, 3, 1, 1, 0, 3, 1, 1, 1])

    def test_two_that_forget_each_and_in_turn_do_not(self):
        self.assertEqual(
            answers([0, 3, 1, 9, 1, 1, 0, 0, 0, 1, 1, 0, 1, 13, 1, 9, 1, 0, 0, 1, 0, 0, 0, 1, 0, 13, 14, 3, 0, 13,
                     17, 18, 14]),
            [1, 0, 1, 0, 1, 2, 1, 1, 1, -33, 6, 0, 1, 0, 2, 0, 1, 1, 1, 1, 2, 1, 2, 3, 3, 2, 2, 6, 0, 1, 0, 2, 0, 1])


class WorstTest(unittest.TestCase):
    def test_the_two_that_are_farthest(self):
        self.assertEqual(last(TWO, HALVES, ("worst", [0])), [0, 1])
        self.assertEqual(last(THREE, ("table", [3, 1, 0, 1, 3, 0, 2, 2, 0]), ("worst", [0])), [0, 1])
        self.assertEqual(last(THREE, ("table", [3, 1, 0, 2, 2, 0, 1, 3, 0]), ("worst", [0])), [0, 2])
        self.assertEqual(last(THREE, ("table", [2, 2, 0, 3, 1, 0, 1, 3, 0]), ("worst", [0])), [1, 2])

    def test_the_first_of_several(self):
        near, one_off = [2, 1, 1], [0, 0, 1]
        for at, told in enumerate(([0, 1], [0, 1], [0, 2])):
            rows = [near] * 3
            rows[at] = one_off
            self.assertEqual(last(THREE, ("table", sum(rows, [])), ("worst", [0])), told)

    def test_all_as_far(self):
        self.assertEqual(last(THREE, ("worst", [])), [0, 1])
        self.assertEqual(last(THREE, MIXED, ("worst", [0])), [0, 1])

    def test_by_a_row(self):
        line = [THREE, ("table", [1, 0, 0, 1, 0, 0, 0, 0, 1]), ROUND]
        self.assertEqual(ask(*line, ("worst", [0]), ("worst", [1, 0]), ("worst", [1, 1, 0]))[3:], [[0, 2], [0, 1], [0, 1]])

    def test_one_place(self):
        self.assertEqual(last(ONE, ("worst", [])), [-33])
        self.assertEqual(last(ONE, ("table", [3]), ("worst", [0] * 8)), [-33])

    def test_one_place_is_told_last(self):
        self.assertEqual(last(ONE, ("worst", [0])), [-2])
        self.assertEqual(last(ONE, ("table", [3]), ("worst", [0] * 9)), [-22])
        self.assertEqual(last(ONE, ("table", [3]), ("worst", [0] * 9 + [1])), [-2])


class MixesTest(unittest.TestCase):
    def test_something_in_common(self):
        self.assertEqual(last(TWO, HALVES, ("mixes", [0])), [1])
        self.assertEqual(last(TWO, ("table", [1, 0, 9, 1]), ("mixes", [0])), [1])
        self.assertEqual(last(THREE, MIXED, ROUND, ("mixes", [1, 0, 1])), [1])

    def test_nothing_in_common(self):
        self.assertEqual(last(TWO, EXCHANGE, ("mixes", [0] * 8)), [0])
        self.assertEqual(last(TWO, STAY, ("mixes", [0])), [0])

    def test_one_two_is_enough_to_not_mix(self):
        self.assertEqual(last(THREE, ("table", [1, 1, 0, 0, 1, 1, 0, 0, 1]), ("mixes", [0])), [0])
        self.assertEqual(last(THREE, ("table", [1, 1, 0, 1, 1, 0, 0, 0, 1]), ("mixes", [0])), [0])
        self.assertEqual(last(THREE, ("table", [1, 0, 0, 0, 1, 1, 0, 1, 1]), ("mixes", [0])), [0])

    def test_in_turn(self):
        told = ask(THREE, *IN_TURN, *[("mixes", row) for row in ([0], [0, 0], [1, 1], [0, 1], [1, 0], [0, 1] * 4)])
        self.assertEqual(told[3:], [[0], [1], [1], [0], [0], [0]])

    def test_without_tables(self):
        self.assertEqual(ask(TWO, ("mixes", []), THREE, ("mixes", []), ONE, ("mixes", [])),
                         [[0], [0], [0], [0], [0], [1]])


class MostTest(unittest.TestCase):
    def test_of_0_steps(self):
        self.assertEqual(ask(TWO, ("most", 0), HALVES, ("most", 0))[1::2], [[0, 1, 1], [0, 1, 1]])
        self.assertEqual(ask(ONE, ("most", 0), ("table", [2]), ("most", 0))[1::2], [[0, 0, 1], [0, 0, 1]])

    def test_without_tables(self):
        self.assertEqual(ask(THREE, *[("most", m) for m in range(5)])[1:],
                         [[0, 1, 1], [0, 0, 1], [0, 0, 1], [0, 0, 1], [-22]])

    def test_of_one_table(self):
        self.assertEqual(ask(TWO, HALVES, *[("most", m) for m in range(4)])[2:],
                         [[0, 1, 1], [0, 1, 4], [0, 1, 16], [0, 1, 64]])

    def test_the_greatest_by_all_rows(self):
        half = ("table", [1, 1, 0, 2])
        for tables in ([HALVES, half], [half, HALVES], [HALVES, HALVES, half]):
            self.assertEqual(ask(TWO, *tables, ("most", 1), ("most", 2), ("most", 3))[-3:],
                             [[0, 1, 2], [0, 1, 4], [0, 1, 8]])

    def test_a_row_of_several_tables_may_be_the_greatest(self):
        told = ask(THREE, *IN_TURN, ("most", 3), ("delta", [0, 0, 0]), ("delta", [1, 1, 1]))
        self.assertEqual(told[3], [0, 1, 1])
        self.assertLess(told[4][1], told[4][2])
        self.assertLess(told[5][1], told[5][2])

    def test_every_row_of_three(self):
        for row in ([0, 1, 2], [2, 1, 0], [1, 1, 2], [2, 2, 2]):
            line = [THREE, ("table", [1, 2, 3, 3, 2, 1, 1, 1, 4]), ("table", [5, 0, 1, 0, 5, 1, 2, 2, 2]), AHEAD[0]]
            told = ask(*line, ("most", 3), ("delta", row))[-2:]
            self.assertGreaterEqual(told[0][1] * told[1][2], told[1][1] * told[0][2])

    def test_one_place(self):
        self.assertEqual(ask(ONE, ("table", [2]), *[("most", m) for m in (1, 2, 3)])[2:], [[0, 0, 1]] * 3)

    def test_more_than_3(self):
        for m in (4, 8, 65536, 4294967295):
            self.assertEqual(ask(TWO, ("most", m), HALVES, ("most", m))[1::2], [[-22], [-22]])


class StepsTest(unittest.TestCase):
    def test_one_place(self):
        self.assertEqual(ask(ONE, STEPS, ("table", [1]), STEPS)[1::2], [[0], [0]])

    def test_no_tables(self):
        self.assertEqual(ask(TWO, STEPS, THREE, STEPS)[1::2], [[1], [1]])

    def test_a_table_that_forgets(self):
        self.assertEqual(last(TWO, HALVES, STEPS), [1])
        self.assertEqual(last(TWO, ("table", [0, 1, 1, 1]), STEPS), [1])
        self.assertEqual(last(THREE, ("table", [0, 1, 0, 0, 0, 1, 1, 1, 0]), STEPS), [3])
        self.assertEqual(last(THREE, ("table", [1, 0, 0, 1, 0, 0, 0, 1, 0]), STEPS), [2])

    def test_a_table_that_does_not(self):
        self.assertEqual(last(TWO, EXCHANGE, STEPS), [-33])
        self.assertEqual(last(TWO, STAY, STEPS), [-33])
        self.assertEqual(last(THREE, ROUND, STEPS), [-33])
        self.assertEqual(last(THREE, ("table", [1, 1, 0, 1, 1, 0, 0, 0, 1]), STEPS), [-33])

    def test_one_that_forgets_and_one_that_does_not(self):
        self.assertEqual(last(TWO, HALVES, STAY, STEPS), [-33])
        self.assertEqual(last(TWO, STAY, HALVES, STEPS), [-33])
        self.assertEqual(ask(TWO, STAY, HALVES, ("drop", 0), STEPS)[3:], [[1], [1]])

    def test_in_turn(self):
        self.assertEqual(last(THREE, IN_TURN[0], STEPS), [2])
        self.assertEqual(last(THREE, IN_TURN[1], STEPS), [2])
        self.assertEqual(last(THREE, *IN_TURN, STEPS), [-33])

    def test_a_changed_cell_counts(self):
        told = ask(TWO, EXCHANGE, STEPS, ("cell", 0, 0, 0, 1), STEPS, ("back",), STEPS)
        self.assertEqual(told[2::2], [[-33], [1], [-33]])


class BegunTest(unittest.TestCase):
    def test_of_0_steps(self):
        self.assertEqual(ask(ONE, ("begun", 0), TWO, ("begun", 0), THREE, ("begun", 0))[1::2],
                         [[0], [1, 0, 1], [3, 0, 1, 0, 2, 1, 2]])
        self.assertEqual(last(THREE, MIXED, ("begun", 0)), [3, 0, 1, 0, 2, 1, 2])

    def test_without_tables(self):
        self.assertEqual(ask(THREE, ("begun", 1), ("begun", 20))[1:], [[0], [0]])

    def test_step_by_step(self):
        self.assertEqual(ask(THREE, ("table", [0, 1, 0, 0, 0, 1, 1, 1, 0]), *[("begun", m) for m in range(5)])[2:],
                         [[3, 0, 1, 0, 2, 1, 2], [2, 0, 1, 1, 2], [1, 0, 1], [0], [0]])

    def test_by_some_row(self):
        line = [THREE, ("table", [1, 0, 0, 1, 0, 0, 0, 1, 0]), ("table", [1, 0, 0, 0, 1, 0, 1, 1, 1])]
        self.assertEqual(last(*line, ("begun", 1)), [3, 0, 1, 0, 2, 1, 2])
        self.assertEqual(last(*line[:2], ("begun", 1)), [2, 0, 2, 1, 2])
        self.assertEqual(last(line[0], line[2], ("begun", 1)), [1, 0, 1])

    def test_20_steps_and_21(self):
        self.assertEqual(ask(TWO, EXCHANGE, ("begun", 20), ("begun", 21))[2:], [[1, 0, 1], [-22]])
        self.assertEqual(ask(THREE, *IN_TURN, ("begun", 20), ("begun", 19))[3:], [[3, 0, 1, 0, 2, 1, 2]] * 2)
        self.assertEqual(last(THREE, ("table", [1, 0, 0, 1, 0, 0, 0, 0, 1]), ("begun", 20)), [2, 0, 2, 1, 2])
        for m in (21, 65536, 4294967295):
            self.assertEqual(ask(ONE, ("begun", m), THREE, ("begun", m))[1::2], [[-22], [-22]])

    def test_one_place(self):
        self.assertEqual(ask(ONE, ("table", [1]), ("begun", 0), ("begun", 20))[2:], [[0], [0]])


class KeptTest(unittest.TestCase):
    def test_none(self):
        self.assertEqual(ask(ONE, KEPT, ("table", [1]), KEPT)[1::2], [[-33], [-33]])
        self.assertEqual(ask(TWO, KEPT, HALVES, KEPT)[1::2], [[-33], [-33]])
        self.assertEqual(last(THREE, ("table", [0, 1, 0, 0, 0, 1, 1, 1, 0]), KEPT), [-33])

    def test_a_round_from_the_beginning(self):
        self.assertEqual(last(TWO, STAY, KEPT), [0, 1, 0, 1, 0])
        self.assertEqual(last(TWO, EXCHANGE, KEPT), [0, 1, 0, 2, 0, 0])
        self.assertEqual(last(THREE, ROUND, KEPT), [0, 1, 0, 3, 0, 0, 0])

    def test_exchanged_is_not_as_it_was(self):
        self.assertEqual(last(THREE, ("table", [0, 1, 0, 1, 0, 0, 0, 0, 1]), KEPT), [0, 1, 0, 2, 0, 0])

    def test_tables_ahead_of_the_round(self):
        self.assertEqual(last(THREE, *AHEAD, KEPT), [0, 1, 3, 1, 1, 0, 3, 1, 1, 1])
        self.assertEqual(last(THREE, ("table", [0, 1, 1, 1, 0, 0, 1, 0, 0]), KEPT), [0, 1, 1, 0, 2, 0, 0])

    def test_the_first_two(self):
        self.assertEqual(last(THREE, ("table", [1, 0, 0, 1, 0, 0, 0, 0, 1]), KEPT), [0, 2, 0, 1, 0])
        self.assertEqual(last(THREE, ("table", [1, 1, 0, 0, 1, 0, 0, 0, 1]), KEPT)[:2], [0, 2])
        self.assertEqual(last(THREE, ("table", [1, 1, 1, 0, 1, 0, 0, 0, 1]), KEPT), [1, 2, 0, 1, 0])

    def test_the_least_table_by_which_it_can_go_on(self):
        self.assertEqual(last(TWO, HALVES, STAY, KEPT), [0, 1, 0, 1, 1])
        self.assertEqual(last(TWO, HALVES, EXCHANGE, STAY, KEPT), [0, 1, 0, 2, 1, 1])
        self.assertEqual(last(TWO, STAY, EXCHANGE, KEPT), [0, 1, 0, 1, 0])

    def test_a_table_that_keeps_apart_once_alone_is_passed_over(self):
        # Table 0 keeps 0 and 2 apart for one step, but brings them to where nothing goes on.
        once = ("table", [1, 0, 0, 1, 0, 0, 0, 1, 0])
        last_apart = ("table", [1, 0, 0, 1, 0, 0, 0, 0, 1])
        self.assertEqual(last(THREE, once, ("mixes", [0])), [0])
        self.assertEqual(last(THREE, once, last_apart, KEPT), [0, 2, 0, 1, 1])

    def test_in_turn(self):
        self.assertEqual(last(THREE, *IN_TURN, KEPT), [0, 1, 0, 2, 0, 1])

    def test_taken_back(self):
        told = ask(TWO, EXCHANGE, KEPT, ("cell", 0, 1, 1, 1), KEPT, ("back",), KEPT)
        self.assertEqual(told[2::2], [[0, 1, 0, 2, 0, 0], [-33], [0, 1, 0, 2, 0, 0]])


if __name__ == "__main__":
    unittest.main()
