"""Promise 2: table, cell, drop; and that a refusal leaves the object as it was."""

import unittest

from lines import ask, last

TWO = ("begin", 2)
FIRST = ("table", [1, 2, 3, 4])
SECOND = ("table", [5, 0, 0, 6])
THIRD = ("table", [0, 7, 8, 9])
SHOWS = [("show", 0), ("show", 1), ("show", 2)]


class TableTest(unittest.TestCase):
    def test_numbered_from_0(self):
        told = ask(TWO, FIRST, SECOND, THIRD, *SHOWS)
        self.assertEqual(told[1:], [[0], [1], [2], [4, 1, 2, 3, 4], [4, 5, 0, 0, 6], [4, 0, 7, 8, 9]])

    def test_each_size(self):
        self.assertEqual(ask(("begin", 1), ("table", [9])), [[0], [0]])
        self.assertEqual(ask(("begin", 3), ("table", [0, 0, 1, 0, 9, 0, 1, 0, 0])), [[0], [0]])

    def test_too_few_or_too_many_weights(self):
        for n in (1, 2, 3):
            for size in range(17):
                with self.subTest(n=n, size=size):
                    self.assertEqual(last(("begin", n), ("table", [1] * size)), [0] if size == n * n else [-22])

    def test_weights_above_9(self):
        for at in range(4):
            for weight in (10, 65535):
                row = [1, 1, 1, 1]
                row[at] = weight
                self.assertEqual(last(TWO, ("table", row)), [-22])

    def test_a_place_without_weight(self):
        self.assertEqual(last(("begin", 1), ("table", [0])), [-22])
        self.assertEqual(last(TWO, ("table", [0, 0, 1, 1])), [-22])
        self.assertEqual(last(TWO, ("table", [1, 1, 0, 0])), [-22])
        self.assertEqual(last(("begin", 3), ("table", [1, 0, 0, 0, 0, 0, 0, 0, 1])), [-22])
        self.assertEqual(last(TWO, ("table", [1, 0, 1, 0])), [0])

    def test_a_fourth_is_too_many(self):
        told = ask(TWO, FIRST, SECOND, THIRD, FIRST, *SHOWS, ("show", 3))
        self.assertEqual(told[4:], [[-28], [4, 1, 2, 3, 4], [4, 5, 0, 0, 6], [4, 0, 7, 8, 9], [-2]])

    def test_not_as_told_is_ahead_of_too_many(self):
        for row in ([], [1, 2, 3], [0, 0, 1, 1], [10, 1, 1, 1]):
            self.assertEqual(last(TWO, FIRST, SECOND, THIRD, ("table", row)), [-22])

    def test_a_refused_table_is_not_there(self):
        self.assertEqual(ask(TWO, ("table", [0, 0, 1, 1]), ("show", 0), FIRST)[1:], [[-22], [-2], [0]])


class CellTest(unittest.TestCase):
    def test_answers_what_it_was(self):
        told = ask(TWO, FIRST, ("cell", 0, 0, 1, 9), ("cell", 0, 0, 1, 0), ("cell", 0, 1, 0, 5), ("show", 0))
        self.assertEqual(told[2:], [[2], [9], [3], [4, 1, 0, 5, 4]])

    def test_only_that_table_changes(self):
        told = ask(TWO, FIRST, FIRST, FIRST, ("cell", 1, 1, 1, 0), *SHOWS)
        self.assertEqual(told[4:], [[4], [4, 1, 2, 3, 4], [4, 1, 2, 3, 0], [4, 1, 2, 3, 4]])

    def test_every_cell_of_three_places(self):
        row = [1, 2, 3, 4, 5, 6, 7, 8, 9]
        for i in range(3):
            for j in range(3):
                shown = list(row)
                shown[3 * i + j] = 0
                told = ask(("begin", 3), ("table", row), ("cell", 0, i, j, 0), ("show", 0))
                self.assertEqual(told[2:], [[row[3 * i + j]], [9] + shown])

    def test_no_such_table_or_place(self):
        for k, i, j in ((1, 0, 0), (0, 2, 0), (0, 0, 2), (4294967295, 0, 0), (0, 4294967295, 0), (0, 0, 4294967295)):
            self.assertEqual(ask(TWO, FIRST, ("cell", k, i, j, 1), ("show", 0))[2:], [[-2], [4, 1, 2, 3, 4]])
        self.assertEqual(last(TWO, ("cell", 0, 0, 0, 1)), [-2])

    def test_a_weight_above_9(self):
        for v in (10, 65536, 4294967295):
            self.assertEqual(ask(TWO, FIRST, ("cell", 0, 1, 1, v), ("show", 0))[2:], [[-22], [4, 1, 2, 3, 4]])

    def test_no_such_is_ahead_of_not_as_told(self):
        for k, i, j in ((1, 0, 0), (0, 2, 0), (0, 0, 2)):
            self.assertEqual(last(TWO, FIRST, ("cell", k, i, j, 10)), [-2])

    def test_the_only_weight_set_to_0(self):
        told = ask(TWO, SECOND, ("cell", 0, 0, 0, 0), ("cell", 0, 1, 1, 0), ("show", 0))
        self.assertEqual(told[2:], [[-16], [-16], [4, 5, 0, 0, 6]])
        self.assertEqual(ask(("begin", 1), ("table", [3]), ("cell", 0, 0, 0, 0), ("show", 0))[2:], [[-16], [1, 3]])

    def test_0_beside_another_weight(self):
        told = ask(TWO, SECOND, ("cell", 0, 0, 1, 0), ("cell", 0, 0, 1, 1), ("cell", 0, 0, 0, 0), ("show", 0))
        self.assertEqual(told[2:], [[0], [0], [5], [4, 0, 1, 0, 6]])


class DropTest(unittest.TestCase):
    def test_those_behind_it_are_numbered_one_less(self):
        told = ask(TWO, FIRST, SECOND, THIRD, ("drop", 0), *SHOWS)
        self.assertEqual(told[4:], [[2], [4, 5, 0, 0, 6], [4, 0, 7, 8, 9], [-2]])
        told = ask(TWO, FIRST, SECOND, THIRD, ("drop", 1), *SHOWS)
        self.assertEqual(told[4:], [[2], [4, 1, 2, 3, 4], [4, 0, 7, 8, 9], [-2]])
        told = ask(TWO, FIRST, SECOND, THIRD, ("drop", 2), *SHOWS)
        self.assertEqual(told[4:], [[2], [4, 1, 2, 3, 4], [4, 5, 0, 0, 6], [-2]])

    def test_till_none_is_left(self):
        told = ask(TWO, FIRST, SECOND, ("drop", 1), ("drop", 0), ("drop", 0))
        self.assertEqual(told[3:], [[1], [0], [-2]])

    def test_makes_room(self):
        told = ask(TWO, FIRST, SECOND, THIRD, ("drop", 0), FIRST, *SHOWS)
        self.assertEqual(told[4:], [[2], [2], [4, 5, 0, 0, 6], [4, 0, 7, 8, 9], [4, 1, 2, 3, 4]])

    def test_no_such_table(self):
        for k in (1, 3, 4294967295):
            self.assertEqual(ask(TWO, FIRST, ("drop", k), ("show", 0))[2:], [[-2], [4, 1, 2, 3, 4]])
        self.assertEqual(last(TWO, ("drop", 0)), [-2])


if __name__ == "__main__":
    unittest.main()
