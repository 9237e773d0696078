"""Points 13 and 14: what a dip is, whether a place takes it, how many places do."""

import unittest

from foldvat.dips import is_dip, taken, takes
from foldvat.errors import NoDip, NoPlace
from foldvat.rows import columns, layers
from tests import by_hand, heads

LONGEST = by_hand.LONGEST
ROW = [("over", 3), ("turn",), ("under", 1)]
FORTY = by_hand.halving(2 ** 41, 40)


def no_dips_of_five():
    """Things that are no dip of a flat strip of five places."""
    sides = ["Above", "above ", "", "beneath", "over", "up", "abovebelow", b"above", ("above",), ["below"],
             by_hand.Pretender(str)]
    things = [(side, 1, 0, 4) for side in sides + by_hand.neither_whole_nor_told() + [0, 1]]
    things += [("above", depth, 0, 4) for depth in by_hand.neither_whole_nor_told() + [0, -1, -10 ** 39]]
    things += [("below", 1, first, 4) for first in by_hand.no_whole_numbers(0, 4)]
    things += [("above", 1, 0, last) for last in by_hand.no_whole_numbers(0, 4)]
    things += [("above", 1, 1, 0), ("below", 9, 4, 3), ("above", 1, 4, 0), ("above", 1, 5, 5), ("above", 1, -1, -1)]
    things += [(), [], ("above",), ("above", 1), ("above", 1, 0), ("above", 1, 0, 4, 4), ("above", 1, 0, 4, None)]
    things += [("dip", "above", 1, 0, 4), (1, "above", 0, 4), (("above", 1, 0, 4),), [["above", 1, 0, 4]], "above"]
    things += ["a104", b"a104", {"above": 1, 1: 1, 0: 1, 4: 1}, {"above", 1, 0, 4}, iter(("above", 1, 0, 4))]
    things += [range(4), by_hand.Pretender(list), by_hand.Pretender(tuple), by_hand.StubbornList(("above", 1, 0, 4))]
    return things + by_hand.neither_whole_nor_told()


class Dips(unittest.TestCase):
    def test_the_edges(self):
        width = columns(9, ROW)
        for side in ("above", "below"):
            for depth in (1, 2, layers(9, ROW, 0), 10, 10 ** 39, 10 ** 80):
                for first in range(width):
                    for last in range(-2, width + 3):
                        told = is_dip(9, ROW, (side, depth, first, last))
                        self.assertIs(told, first <= last < width, (side, depth, first, last))

    def test_one_place(self):
        self.assertIs(is_dip(1, [], ("above", 1, 0, 0)), True)
        self.assertIs(is_dip(1, [("turn",)] * 40, ["below", 1, 0, 0]), True)
        self.assertIs(is_dip(1, [], ("above", 1, 0, 1)), False)

    def test_columns_behind_the_row_count(self):
        self.assertIs(is_dip(5, [], ("above", 1, 0, 4)), True)
        self.assertIs(is_dip(5, [("over", 3)], ("above", 1, 0, 4)), False)
        self.assertIs(is_dip(5, [("over", 3)], ("above", 1, 0, 2)), True)
        self.assertIs(is_dip(LONGEST, [], ("below", 1, LONGEST - 1, LONGEST - 1)), True)
        self.assertIs(is_dip(LONGEST, [], ("below", 1, 0, LONGEST)), False)

    def test_lists_and_tuples_alike(self):
        for dip in (("above", 2, 0, 1), ["above", 2, 0, 1]):
            self.assertIs(is_dip(9, ROW, dip), True)
            self.assertEqual(taken(9, ROW, dip), taken(9, ROW, tuple(dip)))

    def test_what_is_none(self):
        for number, thing in enumerate(no_dips_of_five()):
            with self.subTest(number):
                self.assertIs(is_dip(5, [], thing), False)
                self.assertIs(is_dip(5, [("turn",)], thing), False)
                self.assertRaises(NoDip, takes, 5, [], thing, 0)
                self.assertRaises(NoDip, taken, 5, [], thing)


class Takes(unittest.TestCase):
    def test_a_few_by_sight(self):
        row = [("over", 2)]
        self.assertEqual([takes(5, row, ("above", 1, 0, 2), place) for place in range(5)],
                         [False, False, True, True, True])
        self.assertEqual([takes(5, row, ("below", 1, 0, 1), place) for place in range(5)],
                         [True, False, False, False, True])
        self.assertEqual([takes(5, row, ("below", 2, 1, 1), place) for place in range(5)],
                         [True, False, False, True, False])
        self.assertIs(takes(LONGEST, [], ("above", 1, 7, 7), 7), True)
        self.assertIs(takes(LONGEST, [], ("above", 10 ** 39, 7, 7), 8), False)

    def test_all_dips_of_small_piles(self):
        for places, row in ((1, []), (1, [("turn",)]), (4, []), (5, [("over", 2), ("turn",)]), (6, ROW),
                            (7, [("under", 4), ("over", 2), ("under", 1)])):
            piles = by_hand.courses(places, row)[-1]
            for dip in by_hand.all_dips(piles):
                self.assertIs(is_dip(places, row, dip), True, (places, row, dip))
                told = by_hand.dyed(piles, dip)
                self.assertEqual({place for place in range(places) if takes(places, row, dip, place)}, told, dip)
                self.assertEqual(taken(places, row, dip), len(told), (places, row, dip))

    def test_as_folded_by_hand(self):
        pick = by_hand.picker(11)
        for places, row in by_hand.small_cases():
            piles = by_hand.courses(places, row)[-1]
            dip = by_hand.some_dip(piles, pick)
            told = by_hand.dyed(piles, dip)
            self.assertEqual([takes(places, row, dip, place) for place in range(places)],
                             [place in told for place in range(places)], (places, row, dip))
            self.assertEqual(taken(places, row, dip), len(told), (places, row, dip))

    def test_depths_of_a_tall_pile(self):
        for side in ("above", "below"):
            for depth in (1, 2, 2 ** 39, 2 ** 40 - 1, 2 ** 40):
                self.assertEqual(taken(2 ** 41, FORTY, (side, depth, 0, 0)), depth)
                self.assertEqual(taken(2 ** 41, FORTY, (side, depth, 0, 1)), 2 * depth)
            for depth in (2 ** 40 + 1, 10 ** 39):
                self.assertEqual(taken(2 ** 41, FORTY, (side, depth, 0, 1)), 2 ** 41)

    def test_kinds_of_what_is_told(self):
        self.assertIs(takes(9, ROW, ("above", 1, 0, 0), 0) in (True, False), True)
        self.assertIs(type(takes(9, ROW, ("above", 1, 0, 0), 0)), bool)
        self.assertIs(type(taken(9, ROW, ("above", 1, 0, 0))), int)
        self.assertIs(type(is_dip(9, ROW, ("above", 1, 0, 0))), bool)

    def test_no_place(self):
        for places, row in ((1, []), (5, ROW), (LONGEST, [("under", 9)])):
            for number, place in enumerate(by_hand.no_whole_numbers(0, places - 1)):
                with self.subTest((places, number)):
                    self.assertRaises(NoPlace, takes, places, row, ("above", 1, 0, 0), place)


class Heads(heads.Heads, unittest.TestCase):
    def calls(self, places, row):
        dip = ("above", 1, 0, 0)
        return [(is_dip, places, row, dip), (is_dip, places, row, None), (takes, places, row, dip, 0),
                (taken, places, row, dip)]


if __name__ == "__main__":
    unittest.main()
