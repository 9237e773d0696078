"""Points 5, 6 and 7: places, deeds, rows, columns, layers, stretches."""

import unittest

from foldvat.errors import NoColumn, NoPlaces, NoRow
from foldvat.rows import by_layers, columns, is_row, layers, stretches
from tests import by_hand

LONGEST = by_hand.LONGEST


class Places(unittest.TestCase):
    def test_one_and_the_most(self):
        for places in (1, 2, 10, LONGEST - 1, LONGEST):
            self.assertIs(is_row(places, []), True)
            self.assertEqual(columns(places, []), places)

    def test_no_such_number(self):
        for number, places in enumerate(by_hand.no_whole_numbers(1, LONGEST)):
            with self.subTest(number):
                self.assertRaises(NoPlaces, is_row, places, [])
                self.assertRaises(NoPlaces, columns, places, [])
                self.assertRaises(NoPlaces, layers, places, [], 0)
                self.assertRaises(NoPlaces, stretches, places, [])
                self.assertRaises(NoPlaces, by_layers, places, [])


class Rows(unittest.TestCase):
    def test_all_short_rows_of_short_strips(self):
        for places, row in by_hand.small_cases():
            self.assertIs(is_row(places, row), True, (places, row))

    def test_lines_that_are_let(self):
        for places, row in by_hand.mixed_cases(40):
            if len(row) < 40:
                width = columns(places, row)
                for word in ("over", "under"):
                    for line in range(-2, width + 3):
                        wide = row + [(word, line)]
                        self.assertIs(is_row(places, wide), 1 <= line <= width - 1, (places, wide))

    def test_lines_of_long_strips(self):
        for word in ("over", "under"):
            for line, let in ((0, False), (1, True), (LONGEST - 1, True), (LONGEST, False), (LONGEST + 1, False)):
                self.assertIs(is_row(LONGEST, [(word, line)]), let)
                self.assertIs(is_row(LONGEST, [(word, 1), (word, line)]), let and line < LONGEST - 1)

    def test_one_place_is_only_turned(self):
        self.assertIs(is_row(1, [("turn",)] * 40), True)
        self.assertIs(is_row(1, [("over", 1)]), False)
        self.assertIs(is_row(2, [("over", 1), ("under", 1)]), False)
        self.assertIs(is_row(2, [("over", 1), ("turn",)]), True)

    def test_forty_deeds_at_most(self):
        for deed in (("turn",), ("over", 1), ("under", 3)):
            for form in (list, tuple):
                self.assertIs(is_row(LONGEST, form([deed] * 40)), True)
                for many in (41, 42, 300):
                    self.assertIs(is_row(LONGEST, form([deed] * many)), False)
                    self.assertRaises(NoRow, columns, LONGEST, form([deed] * many))

    def test_what_is_none(self):
        for number, thing in enumerate(by_hand.no_rows_of_five()):
            with self.subTest(number):
                self.assertIs(is_row(5, thing), False)
                self.assertRaises(NoRow, columns, 5, thing)
                self.assertRaises(NoRow, layers, 5, thing, 0)
                self.assertRaises(NoRow, stretches, 5, thing)
                self.assertRaises(NoRow, by_layers, 5, thing)

    def test_lists_and_tuples_alike(self):
        for row in ([], [("turn",)], [("over", 2), ("turn",), ("under", 1)]):
            for form in by_hand.forms(row):
                self.assertIs(is_row(5, form), True)
                self.assertEqual(stretches(5, form), stretches(5, row))


class Grounds(unittest.TestCase):
    def test_one_fold(self):
        self.assertEqual(stretches(5, [("over", 2)]), [(0, 1), (1, 2)])
        self.assertEqual(stretches(5, [("under", 3)]), [(0, 1), (1, 2)])
        self.assertEqual(stretches(4, [("over", 2)]), [(0, 2)])
        self.assertEqual(by_layers(5, [("over", 2)]), [(1, 1), (2, 2)])
        self.assertEqual(columns(5, [("over", 2)]), 3)

    def test_the_turned_side_reaches_below_column_0(self):
        self.assertEqual(columns(5, [("over", 1)]), 4)
        self.assertEqual(stretches(5, [("over", 1)]), [(0, 1), (3, 2)])
        self.assertEqual([layers(5, [("under", 1)], column) for column in range(4)], [1, 1, 1, 2])

    def test_a_turn_between_folds(self):
        self.assertEqual(stretches(7, [("over", 5)]), [(0, 1), (3, 2)])
        self.assertEqual(stretches(7, [("over", 5), ("turn",)]), [(0, 2), (2, 1)])
        self.assertEqual(stretches(7, [("over", 5), ("turn",), ("over", 3)]), [(0, 2), (1, 3), (2, 2)])
        self.assertEqual(stretches(7, [("over", 5), ("over", 3)]), [(0, 1), (1, 3)])
        self.assertEqual(stretches(7, [("over", 5), ("over", 4)]), [(0, 1), (3, 4)])
        self.assertEqual(stretches(7, [("over", 5), ("turn",), ("over", 4)]), [(0, 2), (2, 1), (3, 2)])

    def test_as_folded_by_hand(self):
        for places, row in by_hand.small_cases():
            piles = by_hand.courses(places, row)[-1]
            heights = [len(piles[column]) for column in range(len(piles))]
            starts = [at for at in range(len(heights)) if at == 0 or heights[at] != heights[at - 1]]
            self.assertEqual(columns(places, row), len(heights), (places, row))
            self.assertEqual([layers(places, row, column) for column in range(len(heights))], heights, (places, row))
            self.assertEqual(stretches(places, row), [(at, heights[at]) for at in starts], (places, row))
            many = [(height, heights.count(height)) for height in sorted(set(heights))]
            self.assertEqual(by_layers(places, row), many, (places, row))

    def test_kinds_of_what_is_told(self):
        for row in ([], [("over", 3), ("turn",)]):
            for told in (stretches(10, row), by_layers(10, row)):
                self.assertIs(type(told), list)
                for pair in told:
                    self.assertIs(type(pair), tuple)
                    self.assertEqual([type(part) for part in pair], [int, int])
            self.assertEqual([type(columns(10, row)), type(layers(10, row, 0))], [int, int])

    def test_first_and_last_column(self):
        for places, row in by_hand.long_cases():
            width = columns(places, row)
            told = stretches(places, row)
            self.assertEqual(layers(places, row, 0), told[0][1])
            self.assertEqual(layers(places, row, width - 1), told[-1][1])

    def test_no_column(self):
        cases = [(5, [], 5), (5, [("over", 1)], 4), (1, [], 1), (2, [("under", 1)], 1), (LONGEST, [], LONGEST)]
        for places, row, width in cases:
            for number, column in enumerate(by_hand.no_whole_numbers(0, width - 1)):
                with self.subTest((places, row, number)):
                    self.assertRaises(NoColumn, layers, places, row, column)


if __name__ == "__main__":
    unittest.main()
