"""Promise 1, begin, and what the document says of all calls ahead of it."""

import unittest

from forgottenplaces.tables import answers
from lines import ask, encoded, last

OTHERS = [
    ("table", [1]), ("cell", 0, 0, 0, 1), ("drop", 0), ("show", 0), ("word", []), ("chances_from", 0, []),
    ("spread", [1], []), ("far", 0, 0, []), ("delta", []), ("worst", []), ("most", 0), ("mixes", []), ("steps",),
    ("kept",), ("begun", 0), ("stays", 0, [1]), ("back",), ("state",),
]


class BeginTest(unittest.TestCase):
    def test_one_to_three_places(self):
        for n in (1, 2, 3):
            self.assertEqual(ask(("begin", n), ("word", []))[0], [0])
            self.assertEqual(last(("begin", n), ("word", []))[0], n * n)

    def test_other_numbers_are_refused(self):
        for n in (0, 4, 65536, 4294967295):
            self.assertEqual(ask(("begin", n)), [[-22]])

    def test_it_begins_without_tables(self):
        self.assertEqual(last(("begin", 2), ("show", 0)), [-2])

    def test_begin_again_takes_tables_and_places_anew(self):
        told = ask(("begin", 2), ("table", [1, 2, 3, 4]), ("begin", 3), ("show", 0), ("table", [1] * 9), ("begin", 1),
                   ("delta", []), ("table", [7]), ("show", 0))
        self.assertEqual(told, [[0], [0], [0], [-2], [0], [0], [0, 0, 1], [0], [1, 7]])

    def test_begin_again_makes_room_for_three_tables(self):
        three = [("table", [1])] * 3
        told = ask(("begin", 1), *three, ("begin", 1), *three, ("table", [1]))
        self.assertEqual(told, [[0], [0], [1], [2], [0], [0], [1], [2], [-28]])

    def test_a_refused_begin_leaves_all_as_it_was(self):
        told = ask(("begin", 2), ("table", [1, 2, 3, 4]), ("begin", 4), ("show", 0), ("begin", 0), ("show", 0))
        self.assertEqual(told[2:], [[-22], [4, 1, 2, 3, 4], [-22], [4, 1, 2, 3, 4]])


class NotBegunTest(unittest.TestCase):
    def test_every_other_call_ahead_of_begin(self):
        self.assertEqual(ask(*OTHERS), [[-11]] * len(OTHERS))

    def test_a_refused_begin_does_not_begin(self):
        self.assertEqual(ask(("begin", 4), *OTHERS), [[-22]] + [[-11]] * len(OTHERS))

    def test_not_begun_is_ahead_of_all_else(self):
        wrong = [("table", [10] * 16), ("cell", 9, 9, 9, 99), ("drop", 4294967295), ("show", 7), ("word", [65535] * 16),
                 ("chances_from", 8, [3]), ("spread", [100] * 6, [4] * 9), ("spread", [], []), ("far", 9, 9, [9]),
                 ("delta", [0] * 9), ("most", 4), ("begun", 21), ("stays", 5, [])]
        self.assertEqual(ask(*wrong), [[-11]] * len(wrong))

    def test_begin_behind_refused_calls(self):
        self.assertEqual(ask(*OTHERS, ("begin", 1), ("word", []))[-2:], [[0], [1, 1, 1]])


class InterfaceTest(unittest.TestCase):
    LINE = [("begin", 2), ("table", [1, 1, 0, 3]), ("cell", 0, 0, 0, 0), ("spread", [1, 3], [0]), ("drop", 1)]

    def test_the_form_of_the_list(self):
        self.assertEqual(answers([0, 2, 1, 4, 1, 1, 0, 3, 4, 0, 8, 0, 1, 1, 0, 3, 5]),
                         [1, 0, 1, 0, 5, 4, 1, 1, 0, 3, 3, 0, 1, 2, 1, -2])

    def test_what_is_handed_in_is_not_changed(self):
        calls = encoded(self.LINE)
        before = list(calls)
        answers(calls)
        self.assertEqual(calls, before)

    def test_nothing_is_kept(self):
        calls = encoded(self.LINE)
        first = answers(calls)
        self.assertEqual(answers([4, 0]), [1, -11])
        self.assertEqual(answers(calls), first)

    def test_all_are_whole_numbers(self):
        told = answers(encoded(self.LINE + [("word", [0]), ("far", 0, 1, []), ("delta", [0])]))
        self.assertIs(type(told), list)
        self.assertEqual({type(number) for number in told}, {int})

    def test_a_line_of_256_calls(self):
        told = ask(("begin", 3), ("table", [9, 8, 7, 6, 5, 4, 3, 2, 1]), *[("word", [0] * 8)] * 254)
        self.assertEqual(len(told), 256)
        self.assertEqual(told[2:], [told[2]] * 254)


if __name__ == "__main__":
    unittest.main()
