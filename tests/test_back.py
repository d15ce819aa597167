"""Promise 1: back and state, with the changes that are kept since begin."""

import unittest

from lines import ask, last

TWO = ("begin", 2)
FIRST = ("table", [1, 2, 3, 4])
SECOND = ("table", [5, 0, 0, 6])
THIRD = ("table", [0, 7, 8, 9])
BACK = ("back",)
STATE = ("state",)
SHOWS = [("show", 0), ("show", 1), ("show", 2)]


def weight(v):
    return ("cell", 0, 0, 0, v)


class StateTest(unittest.TestCase):
    def test_places_tables_changes(self):
        for n in (1, 2, 3):
            self.assertEqual(last(("begin", n), STATE), [n, 0, 0])
        told = ask(TWO, FIRST, STATE, SECOND, STATE, ("cell", 1, 0, 1, 3), STATE, ("drop", 0), STATE)
        self.assertEqual(told[2::2], [[2, 1, 1], [2, 2, 2], [2, 2, 3], [2, 1, 4]])

    def test_a_cell_set_to_what_it_was_is_a_change(self):
        self.assertEqual(ask(TWO, FIRST, ("cell", 0, 0, 0, 1), STATE, BACK, STATE)[2:], [[1], [2, 1, 2], [1], [2, 1, 1]])

    def test_what_is_refused_is_no_change(self):
        told = ask(TWO, SECOND, ("table", [1]), STATE, ("cell", 0, 0, 0, 0), STATE, ("cell", 1, 0, 0, 1), STATE,
                   ("cell", 0, 0, 0, 10), STATE, ("drop", 1), STATE)
        self.assertEqual(told[2:], [[-22], [2, 1, 1], [-16], [2, 1, 1], [-2], [2, 1, 1], [-22], [2, 1, 1], [-2], [2, 1, 1]])

    def test_looking_is_no_change(self):
        looks = [("show", 0), ("word", [0]), ("chances_from", 0, [0]), ("spread", [1, 1], [0]), ("far", 0, 1, [0]),
                 ("delta", [0]), ("worst", [0]), ("most", 3), ("mixes", [0]), ("steps",), ("kept",), ("begun", 20),
                 ("stays", 0, [1, 1]), STATE]
        for look in looks:
            with self.subTest(look=look):
                self.assertEqual(ask(TWO, FIRST, look, STATE, ("show", 0))[3:], [[2, 1, 1], [4, 1, 2, 3, 4]])


class BackTest(unittest.TestCase):
    def test_nothing_to_take_back(self):
        for n in (1, 2, 3):
            self.assertEqual(ask(("begin", n), BACK, STATE)[1:], [[-6], [n, 0, 0]])

    def test_a_table_is_gone_again(self):
        self.assertEqual(ask(TWO, FIRST, SECOND, BACK, *SHOWS[:2], BACK, ("show", 0), BACK)[3:],
                         [[1], [4, 1, 2, 3, 4], [-2], [0], [-2], [-6]])

    def test_a_cell_is_as_it_was(self):
        told = ask(TWO, FIRST, ("cell", 0, 1, 0, 0), ("show", 0), BACK, ("show", 0))
        self.assertEqual(told[3:], [[4, 1, 2, 0, 4], [1], [4, 1, 2, 3, 4]])

    def test_a_dropped_table_is_where_it_was(self):
        for k in range(3):
            told = ask(TWO, FIRST, SECOND, THIRD, ("drop", k), BACK, *SHOWS)
            self.assertEqual(told[5:], [[3], [4, 1, 2, 3, 4], [4, 5, 0, 0, 6], [4, 0, 7, 8, 9]])

    def test_one_behind_another(self):
        told = ask(TWO, FIRST, SECOND, ("cell", 0, 0, 0, 9), ("drop", 1), BACK, BACK, *SHOWS[:2], BACK, STATE)
        self.assertEqual(told[5:], [[3], [2], [4, 1, 2, 3, 4], [4, 5, 0, 0, 6], [1], [2, 1, 1]])

    def test_the_last_ten_alone(self):
        changes = [weight(v) for v in (1, 2, 3, 4, 5, 6, 7, 8, 9, 8, 7)]
        told = ask(TWO, FIRST, *changes[:9], STATE, changes[9], STATE, changes[10], STATE)
        self.assertEqual(told[11::2], [[2, 1, 10], [2, 1, 10], [2, 1, 10]])
        told = ask(TWO, FIRST, *changes, *[BACK] * 11, ("show", 0), STATE)
        self.assertEqual(told[13:], [[left] for left in range(9, -1, -1)] + [[-6], [4, 1, 2, 3, 4], [2, 1, 0]])

    def test_each_of_more_than_ten(self):
        values = [9, 8, 7, 6, 5, 4, 3, 2, 1, 2, 3, 4, 5]
        calls = [TWO, FIRST, *map(weight, values)]
        told = ask(*calls, *[BACK, ("show", 0)] * 10, BACK)[len(calls):]
        self.assertEqual([numbers[1] for numbers in told[1::2]], values[-2:-12:-1])
        self.assertEqual(told[-1], [-6])

    def test_exactly_ten(self):
        changes = [FIRST, *map(weight, [9, 8, 7, 6, 5, 4, 3, 2, 1])]
        told = ask(TWO, *changes, STATE, *[BACK] * 10, STATE, BACK)
        self.assertEqual(told[11:], [[2, 1, 10]] + [[left] for left in range(9, -1, -1)] + [[2, 0, 0], [-6]])

    def test_a_change_behind_back(self):
        told = ask(TWO, FIRST, weight(5), BACK, weight(6), ("show", 0), STATE, BACK, ("show", 0), BACK, BACK)
        self.assertEqual(told[3:], [[1], [1], [4, 6, 2, 3, 4], [2, 1, 2], [1], [4, 1, 2, 3, 4], [0], [-6]])

    def test_back_is_no_change(self):
        told = ask(TWO, FIRST, SECOND, BACK, BACK, BACK, STATE)
        self.assertEqual(told[3:], [[1], [0], [-6], [2, 0, 0]])

    def test_back_makes_room_for_a_table(self):
        told = ask(TWO, FIRST, SECOND, THIRD, FIRST, BACK, FIRST, ("show", 2))
        self.assertEqual(told[4:], [[-28], [2], [2], [4, 1, 2, 3, 4]])

    def test_a_refused_change_in_between(self):
        told = ask(TWO, FIRST, weight(5), weight(10), ("drop", 7), ("table", []), BACK, ("show", 0))
        self.assertEqual(told[6:], [[1], [4, 1, 2, 3, 4]])


class BeginAgainTest(unittest.TestCase):
    def test_changes_ahead_of_a_begin_are_not_taken_back(self):
        told = ask(TWO, FIRST, weight(5), TWO, STATE, BACK, SECOND, BACK, BACK, STATE)
        self.assertEqual(told[3:], [[0], [2, 0, 0], [-6], [0], [0], [-6], [2, 0, 0]])

    def test_with_other_places(self):
        told = ask(("begin", 3), ("table", [1] * 9), ("begin", 1), BACK, ("table", [4]), STATE)
        self.assertEqual(told[2:], [[0], [-6], [0], [1, 1, 1]])

    def test_a_refused_begin_keeps_the_changes(self):
        told = ask(TWO, FIRST, weight(5), ("begin", 4), STATE, ("begin", 0), BACK, ("show", 0))
        self.assertEqual(told[3:], [[-22], [2, 1, 2], [-22], [1], [4, 1, 2, 3, 4]])


if __name__ == "__main__":
    unittest.main()
