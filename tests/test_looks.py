"""Promise 3 (show, word, chances_from, spread, stays), of promise 4 far and delta, and rows by all calls that have one."""

import unittest

from lines import ask, last

TWO = ("begin", 2)
THREE = ("begin", 3)
HALVES = ("table", [2, 2, 1, 3])
EXCHANGE = ("table", [0, 1, 1, 0])
STAY = ("table", [4, 0, 0, 9])
SHOWS = [("show", 0), ("show", 1), ("show", 2)]


class ShowTest(unittest.TestCase):
    def test_weights_are_shown_as_told(self):
        self.assertEqual(last(TWO, HALVES, ("show", 0)), [4, 2, 2, 1, 3])
        self.assertEqual(last(("begin", 1), ("table", [6]), ("show", 0)), [1, 6])
        self.assertEqual(last(THREE, ("table", [3, 6, 9, 0, 2, 0, 4, 4, 4]), ("show", 0)), [9, 3, 6, 9, 0, 2, 0, 4, 4, 4])

    def test_no_such_table(self):
        for k in (1, 2, 4294967295):
            self.assertEqual(last(TWO, HALVES, ("show", k)), [-2])
        self.assertEqual(last(TWO, ("show", 0)), [-2])


class WordTest(unittest.TestCase):
    def test_without_tables_each_place_itself(self):
        self.assertEqual(last(("begin", 1), ("word", [])), [1, 1, 1])
        self.assertEqual(last(TWO, ("word", [])), [4, 1, 1, 0, 1, 0, 1, 1, 1])
        self.assertEqual(last(THREE, ("table", [1] * 9), ("word", [])),
                         [9, 1, 1, 0, 1, 0, 1, 0, 1, 1, 1, 0, 1, 0, 1, 0, 1, 1, 1])

    def test_fractions_have_nothing_in_common(self):
        self.assertEqual(last(TWO, HALVES, ("word", [0])), [4, 1, 2, 1, 2, 1, 4, 3, 4])
        self.assertEqual(last(TWO, ("table", [6, 3, 0, 8]), ("word", [0])), [4, 2, 3, 1, 3, 0, 1, 1, 1])

    def test_one_place(self):
        self.assertEqual(last(("begin", 1), ("table", [6]), ("word", [0] * 8)), [1, 1, 1])

    def test_from_the_first_to_the_last(self):
        line = [TWO, ("table", [1, 1, 0, 1]), EXCHANGE]
        self.assertEqual(last(*line, ("word", [0, 1])), [4, 1, 2, 1, 2, 1, 1, 0, 1])
        self.assertEqual(last(*line, ("word", [1, 0])), [4, 0, 1, 1, 1, 1, 2, 1, 2])

    def test_one_table_twice(self):
        self.assertEqual(last(TWO, HALVES, ("word", [0, 0])), [4, 3, 8, 5, 8, 5, 16, 11, 16])

    def test_a_changed_cell_counts(self):
        self.assertEqual(last(TWO, HALVES, ("cell", 0, 0, 1, 0), ("word", [0])), [4, 1, 1, 0, 1, 1, 4, 3, 4])

    def test_eight_tables_and_nine(self):
        self.assertEqual(last(TWO, EXCHANGE, ("word", [0] * 8)), [4, 1, 1, 0, 1, 0, 1, 1, 1])
        for size in range(9, 17):
            self.assertEqual(last(TWO, EXCHANGE, ("word", [0] * size)), [-22])

    def test_great_numbers_are_exact(self):
        told = last(THREE, ("table", [9, 9, 7, 9, 9, 8, 9, 9, 5]), ("chances_from", 2, [0] * 8))
        self.assertEqual(told[0], 3)
        self.assertEqual(told[2] % 23, 0)
        self.assertGreater(told[2], 10 ** 30)


class FromTest(unittest.TestCase):
    def test_each_place(self):
        self.assertEqual(last(TWO, HALVES, ("chances_from", 0, [0])), [2, 1, 2, 1, 2])
        self.assertEqual(last(TWO, HALVES, ("chances_from", 1, [0])), [2, 1, 4, 3, 4])
        self.assertEqual(last(TWO, HALVES, ("chances_from", 1, [])), [2, 0, 1, 1, 1])

    def test_is_the_word_of_that_place(self):
        line = [THREE, ("table", [1, 2, 3, 0, 5, 0, 7, 1, 1]), ("table", [0, 1, 1, 2, 3, 4, 9, 0, 0])]
        word = last(*line, ("word", [0, 1, 1]))
        for i in range(3):
            self.assertEqual(last(*line, ("chances_from", i, [0, 1, 1])), [3] + word[1 + 6 * i:7 + 6 * i])

    def test_no_such_place(self):
        for i in (2, 3, 4294967295):
            self.assertEqual(last(TWO, HALVES, ("chances_from", i, [0])), [-2])
            self.assertEqual(last(TWO, HALVES, ("chances_from", i, [0] * 9)), [-2])


class SpreadTest(unittest.TestCase):
    def test_without_tables_it_is_brought_to_lowest(self):
        self.assertEqual(last(TWO, ("spread", [99, 33], [])), [2, 3, 4, 1, 4])
        self.assertEqual(last(THREE, ("spread", [0, 4, 0], [])), [3, 0, 1, 1, 1, 0, 1])
        self.assertEqual(last(("begin", 1), ("spread", [50], [])), [1, 1, 1])

    def test_behind_tables(self):
        self.assertEqual(last(TWO, HALVES, ("spread", [1, 1], [0])), [2, 3, 8, 5, 8])
        self.assertEqual(last(TWO, HALVES, EXCHANGE, ("spread", [1, 1], [0, 1])), [2, 5, 8, 3, 8])

    def test_a_spread_that_stays(self):
        self.assertEqual(last(TWO, HALVES, ("spread", [1, 2], [0] * 8)), [2, 1, 3, 2, 3])

    def test_not_a_spread(self):
        for weights in ([], [1], [1, 1, 1], [1] * 6, [0, 0], [100, 1], [1, 100], [65535, 65535]):
            self.assertEqual(last(TWO, HALVES, ("spread", weights, [0])), [-22])
        self.assertEqual(last(("begin", 1), ("spread", [0], [])), [-22])

    def test_no_such_is_ahead_of_not_a_spread(self):
        self.assertEqual(last(TWO, HALVES, ("spread", [], [1])), [-2])
        self.assertEqual(last(TWO, HALVES, ("spread", [0, 0], [0] * 8 + [1])), [-2])

    def test_nine_tables(self):
        self.assertEqual(last(TWO, HALVES, ("spread", [1, 1], [0] * 9)), [-22])


class StaysTest(unittest.TestCase):
    def test_a_spread_that_stays(self):
        self.assertEqual(last(TWO, HALVES, ("stays", 0, [1, 2])), [1])
        self.assertEqual(last(TWO, EXCHANGE, ("stays", 0, [3, 3])), [1])
        self.assertEqual(last(TWO, STAY, ("stays", 0, [0, 99])), [1])
        self.assertEqual(last(THREE, ("table", [0, 1, 0, 0, 0, 1, 1, 0, 0]), ("stays", 0, [7, 7, 7])), [1])
        self.assertEqual(last(("begin", 1), ("table", [4]), ("stays", 0, [50])), [1])

    def test_the_same_chances_in_other_weights(self):
        for times in range(1, 50):
            self.assertEqual(last(TWO, HALVES, ("stays", 0, [times, 2 * times])), [1])
            self.assertEqual(last(TWO, HALVES, ("stays", 0, [times + 1, 2 * times])), [0])

    def test_one_that_does_not(self):
        self.assertEqual(last(TWO, HALVES, ("stays", 0, [1, 1])), [0])
        self.assertEqual(last(TWO, EXCHANGE, ("stays", 0, [3, 4])), [0])
        self.assertEqual(last(TWO, EXCHANGE, ("stays", 0, [0, 1])), [0])
        self.assertEqual(last(THREE, ("table", [1, 0, 0, 0, 0, 1, 0, 1, 0]), ("stays", 0, [5, 1, 2])), [0])

    def test_by_that_table(self):
        line = [TWO, EXCHANGE, STAY, HALVES]
        self.assertEqual(ask(*line, *[("stays", k, [1, 2]) for k in range(4)])[4:], [[0], [1], [1], [-2]])

    def test_no_such_table(self):
        for k in (1, 3, 4294967295):
            self.assertEqual(last(TWO, HALVES, ("stays", k, [1, 2])), [-2])
        self.assertEqual(last(TWO, ("stays", 0, [1, 2])), [-2])

    def test_not_a_spread(self):
        for weights in ([], [1], [1, 2, 0], [1] * 6, [0, 0], [100, 1], [1, 100], [65535, 65535]):
            self.assertEqual(last(TWO, HALVES, ("stays", 0, weights)), [-22])
            self.assertEqual(last(TWO, HALVES, ("stays", 1, weights)), [-2])


class FarTest(unittest.TestCase):
    def test_ordinary(self):
        self.assertEqual(last(TWO, HALVES, ("far", 0, 1, [0])), [0, 1, 4])
        self.assertEqual(last(TWO, HALVES, ("far", 1, 0, [0])), [0, 1, 4])
        self.assertEqual(last(TWO, HALVES, ("far", 0, 1, [0, 0])), [0, 1, 16])

    def test_without_tables(self):
        self.assertEqual(last(THREE, ("far", 0, 2, [])), [0, 1, 1])

    def test_from_a_place_to_itself(self):
        self.assertEqual(last(TWO, HALVES, ("far", 1, 1, [0])), [0, 0, 1])
        self.assertEqual(last(("begin", 1), ("far", 0, 0, [])), [0, 0, 1])

    def test_exchanged_places_stay_apart(self):
        self.assertEqual(last(TWO, EXCHANGE, ("far", 0, 1, [0] * 8)), [0, 1, 1])

    def test_more_in_several_places(self):
        self.assertEqual(last(THREE, ("table", [4, 3, 1, 1, 1, 6, 1, 1, 1]), ("far", 0, 1, [0])), [0, 5, 8])

    def test_no_such_place(self):
        for i, j in ((2, 0), (0, 2), (4294967295, 1), (1, 4294967295), (2, 2)):
            self.assertEqual(last(TWO, HALVES, ("far", i, j, [0])), [-2])
            self.assertEqual(last(TWO, HALVES, ("far", i, j, [0] * 9)), [-2])


class DeltaTest(unittest.TestCase):
    def test_ordinary(self):
        self.assertEqual(last(TWO, HALVES, ("delta", [0])), [0, 1, 4])
        self.assertEqual(last(TWO, STAY, ("delta", [0] * 8)), [0, 1, 1])
        self.assertEqual(last(TWO, ("table", [1, 2, 3, 6]), ("delta", [0])), [0, 0, 1])

    def test_the_greatest_of_all_twos(self):
        near, one_off = [2, 1, 1], [0, 0, 1]
        for at in range(3):
            rows = [near] * 3
            rows[at] = one_off
            self.assertEqual(last(THREE, ("table", sum(rows, [])), ("delta", [0])), [0, 3, 4])
        self.assertEqual(last(THREE, ("table", [3, 1, 0, 2, 2, 0, 1, 3, 0]), ("delta", [0])), [0, 1, 2])
        self.assertEqual(last(THREE, ("table", [3, 1, 0, 1, 3, 0, 2, 2, 0]), ("delta", [0])), [0, 1, 2])
        self.assertEqual(last(THREE, ("table", [2, 2, 0, 3, 1, 0, 1, 3, 0]), ("delta", [0])), [0, 1, 2])

    def test_without_tables(self):
        self.assertEqual(last(TWO, ("delta", [])), [0, 1, 1])
        self.assertEqual(last(THREE, ("delta", [])), [0, 1, 1])

    def test_one_place(self):
        self.assertEqual(last(("begin", 1), ("delta", [])), [0, 0, 1])
        self.assertEqual(last(("begin", 1), ("table", [5]), ("delta", [0] * 8)), [0, 0, 1])


class RowTest(unittest.TestCase):
    """What is refused of a row of tables, by each call that has one."""

    def calls(self, row):
        return [("word", row), ("chances_from", 0, row), ("spread", [1, 1], row), ("far", 0, 1, row), ("delta", row),
                ("worst", row), ("mixes", row)]

    def test_no_such_table(self):
        for row in ([1], [0, 1], [1, 0], [65535], [0] * 7 + [1]):
            self.assertEqual(ask(TWO, HALVES, *self.calls(row))[2:], [[-2]] * 7)
        self.assertEqual(ask(TWO, *self.calls([0]))[1:], [[-2]] * 7)

    def test_eight_tables_are_taken(self):
        for told in ask(TWO, HALVES, *self.calls([0] * 8)):
            self.assertGreaterEqual(told[0], 0)

    def test_more_than_eight(self):
        for size in (9, 16):
            self.assertEqual(ask(TWO, HALVES, *self.calls([0] * size))[2:], [[-22]] * 7)

    def test_no_such_is_ahead_of_more_than_eight(self):
        for row in ([0] * 8 + [1], [1] * 9, [1] + [0] * 15):
            self.assertEqual(ask(TWO, HALVES, *self.calls(row))[2:], [[-2]] * 7)

    def test_a_dropped_table_is_refused(self):
        self.assertEqual(ask(TWO, HALVES, EXCHANGE, ("drop", 0), *self.calls([1]))[4:], [[-2]] * 7)

    def test_looking_changes_nothing(self):
        line = [TWO, HALVES, EXCHANGE, STAY]
        looks = self.calls([0, 1, 2]) + self.calls([3]) + self.calls([0] * 9) + SHOWS
        told = ask(*line, *looks, *looks)[len(line):]
        self.assertEqual(told[:len(looks)], told[len(looks):])
        self.assertEqual(told[-3:], [[4, 2, 2, 1, 3], [4, 0, 1, 1, 0], [4, 4, 0, 0, 9]])


if __name__ == "__main__":
    unittest.main()
