"""Points 8, 9 and 10: where places lie, where a pile stands now, the line between two places."""

import unittest

from foldvat.errors import NoColumn, NoDepth, NoNumber, NoPlace
from foldvat.rows import columns, layers
from foldvat.spots import line_to, place_at, run_now, spot, way_of
from tests import by_hand, heads

LONGEST = by_hand.LONGEST
THREE = [("over", 2), ("turn",), ("under", 1)]


class Spots(unittest.TestCase):
    def test_a_few_by_sight(self):
        self.assertEqual(spot(3, [], 1), (1, 0, 0, "up"))
        self.assertEqual([spot(3, [("over", 1)], place) for place in range(3)],
                         [(1, 1, 0, "up"), (1, 0, 1, "down"), (0, 0, 0, "down")])
        self.assertEqual([spot(3, [("under", 2)], place) for place in range(3)],
                         [(0, 0, 0, "up"), (1, 0, 1, "up"), (1, 1, 0, "down")])
        self.assertEqual([spot(2, [("turn",)], place) for place in range(2)], [(1, 0, 0, "down"), (0, 0, 0, "down")])
        self.assertEqual(way_of(4, [("over", 2), ("under", 1)], 3), [(3, 0, 0, "up"), (0, 0, 1, "down"),
                                                                     (0, 0, 3, "down")])

    def test_as_folded_by_hand(self):
        for places, row in by_hand.small_cases():
            ways = [by_hand.spots(piles) for piles in by_hand.courses(places, row)]
            for place in range(places):
                self.assertEqual(spot(places, row, place), ways[-1][place], (places, row, place))
                self.assertEqual(way_of(places, row, place), [told[place] for told in ways], (places, row, place))

    def test_kinds_of_what_is_told(self):
        told = spot(5, THREE, 4)
        self.assertIs(type(told), tuple)
        self.assertEqual([type(part) for part in told], [int, int, int, str])
        way = way_of(5, THREE, 4)
        self.assertIs(type(way), list)
        self.assertEqual([type(one) for one in way], [tuple] * 4)
        self.assertEqual(way_of(5, [], 4), [(4, 0, 0, "up")])

    def test_no_place(self):
        for places in (1, 2, 5, LONGEST):
            for number, place in enumerate(by_hand.no_whole_numbers(0, places - 1)):
                with self.subTest((places, number)):
                    self.assertRaises(NoPlace, spot, places, [("turn",)], place)
                    self.assertRaises(NoPlace, way_of, places, [("turn",)], place)


class PlacesAt(unittest.TestCase):
    def test_as_folded_by_hand(self):
        for places, row in by_hand.small_cases():
            piles = by_hand.courses(places, row)[-1]
            for column, pile in piles.items():
                told = [place_at(places, row, column, depth) for depth in range(len(pile))]
                self.assertEqual(told, [place for place, _ in pile], (places, row, column))

    def test_first_and_last(self):
        self.assertEqual(place_at(LONGEST, [], 0, 0), 0)
        self.assertEqual(place_at(LONGEST, [], LONGEST - 1, 0), LONGEST - 1)
        half = LONGEST // 2
        self.assertEqual(place_at(LONGEST, [("over", half)], 0, 0), LONGEST - 1)
        self.assertEqual(place_at(LONGEST, [("over", half)], 0, 1), 0)
        self.assertEqual(place_at(LONGEST, [("under", half)], half - 1, 1), half)
        self.assertEqual(place_at(1, [("turn",)] * 40, 0, 0), 0)

    def test_no_column(self):
        for places, row in ((5, []), (5, THREE), (1, []), (LONGEST, [("over", 7)])):
            for number, column in enumerate(by_hand.no_whole_numbers(0, columns(places, row) - 1)):
                with self.subTest((places, row, number)):
                    self.assertRaises(NoColumn, place_at, places, row, column, 0)

    def test_no_depth(self):
        cases = ((5, [], 4), (5, THREE, 0), (5, THREE, 1), (1, [], 0), (2 ** 40, by_hand.halving(2 ** 40, 40), 0))
        for places, row, column in cases:
            for number, depth in enumerate(by_hand.no_whole_numbers(0, layers(places, row, column) - 1)):
                with self.subTest((places, row, column, number)):
                    self.assertRaises(NoDepth, place_at, places, row, column, depth)


class Runs(unittest.TestCase):
    def test_a_few_by_sight(self):
        row = [("over", 2), ("under", 1), ("turn",)]
        self.assertEqual(run_now(4, row, 0, 0), (0, 2, 1, True))
        self.assertEqual(run_now(4, row, 1, 0), (0, 2, 0, True))
        self.assertEqual(run_now(4, row, 1, 1), (0, 0, 2, False))
        self.assertEqual(run_now(4, row, 2, 0), (0, 0, 0, True))
        self.assertEqual(run_now(4, row, 3, 0), (0, 0, 0, False))
        self.assertEqual(run_now(1, [("turn",)], 0, 0), (0, 0, 0, True))

    def test_as_folded_by_hand(self):
        for places, row in by_hand.small_cases():
            courses = by_hand.courses(places, row)
            last = courses[-1]
            for deeds, piles in enumerate(courses):
                for column, pile in piles.items():
                    now, above, beneath, turned = run_now(places, row, deeds, column)
                    stands = last[now][above:len(last[now]) - beneath]
                    laid = by_hand.about(pile) if turned else pile
                    self.assertEqual(stands, laid, (places, row, deeds, column))
                    self.assertEqual(above + len(pile) + beneath, len(last[now]), (places, row, deeds, column))

    def test_all_of_the_deeds(self):
        for places, row in by_hand.mixed_cases(20):
            for column in range(columns(places, row)):
                self.assertEqual(run_now(places, row, len(row), column), (column, 0, 0, False))

    def test_kinds_of_what_is_told(self):
        for deeds in range(4):
            told = run_now(5, THREE, deeds, 0)
            self.assertIs(type(told), tuple)
            self.assertEqual([type(part) for part in told], [int, int, int, bool])

    def test_no_number(self):
        for row in ([], THREE, [("turn",)] * 40):
            for number, deeds in enumerate(by_hand.no_whole_numbers(0, len(row))):
                with self.subTest((row, number)):
                    self.assertRaises(NoNumber, run_now, 5, row, deeds, 0)

    def test_no_column_at_that_time(self):
        for deeds, width in enumerate((5, 3, 3, 2)):
            self.assertEqual(len(run_now(5, THREE, deeds, width - 1)), 4)
            for number, column in enumerate(by_hand.no_whole_numbers(0, width - 1)):
                with self.subTest((deeds, number)):
                    self.assertRaises(NoColumn, run_now, 5, THREE, deeds, column)


class Lines(unittest.TestCase):
    def test_a_few_by_sight(self):
        self.assertEqual(line_to(5, [], 0, 1), 1)
        self.assertEqual(line_to(5, [], 4, 1), 3)
        self.assertEqual(line_to(5, [], 0, 3), 2)
        self.assertEqual(line_to(5, [], 3, 4), 4)
        self.assertIsNone(line_to(5, [], 2, 2))
        self.assertIsNone(line_to(5, [], 0, 2))
        self.assertIsNone(line_to(5, [], 0, 4))
        self.assertIsNone(line_to(4, [("over", 2)], 0, 3))
        self.assertEqual(line_to(4, [("over", 2)], 0, 2), 1)

    def test_as_folded_by_hand(self):
        for places, row in by_hand.small_cases():
            piles = by_hand.courses(places, row)[-1]
            lies = by_hand.spots(piles)
            behind = [(line, by_hand.spots(by_hand.fold(piles, "over", line))) for line in range(1, len(piles))]
            for place in range(min(places, 12)):
                for other in range(places):
                    fits = [line for line, told in behind if told[place][0] == told[other][0]]
                    if lies[place][0] == lies[other][0] or not fits:
                        fits = [None]
                    self.assertEqual([line_to(places, row, place, other)], fits, (places, row, place, other))

    def test_long_strips(self):
        self.assertEqual(line_to(LONGEST, [], 0, LONGEST - 1), LONGEST // 2)
        self.assertIsNone(line_to(LONGEST, [], 0, LONGEST - 2))
        self.assertIsNone(line_to(LONGEST, [], 1, LONGEST - 1))
        self.assertEqual(line_to(LONGEST, [], LONGEST - 1, LONGEST - 2), LONGEST - 1)
        for places, row in by_hand.long_cases():
            pick = by_hand.picker(3)
            for _ in range(6):
                place, other = pick(places), pick(places)
                one, two = spot(places, row, place)[0], spot(places, row, other)[0]
                line = line_to(places, row, place, other)
                self.assertEqual(line is None, abs(one - two) % 2 == 0)
                self.assertEqual(line_to(places, row, other, place), line)
                if line is not None and len(row) < 40:
                    wide = row + [("under", line)]
                    self.assertEqual(spot(places, wide, place)[0], spot(places, wide, other)[0])

    def test_no_place_of_each(self):
        for number, place in enumerate(by_hand.no_whole_numbers(0, 4)):
            with self.subTest(number):
                self.assertRaises(NoPlace, line_to, 5, [], place, 0)
                self.assertRaises(NoPlace, line_to, 5, [], 0, place)
                self.assertRaises(NoPlace, line_to, 5, [], place, place)


class Heads(heads.Heads, unittest.TestCase):
    def calls(self, places, row):
        return [(spot, places, row, 0), (way_of, places, row, 0), (place_at, places, row, 0, 0),
                (run_now, places, row, 0, 0), (line_to, places, row, 0, 0)]


if __name__ == "__main__":
    unittest.main()
