"""Point 4 for bends: long strips and rows of forty deeds."""

import unittest

from foldvat.bends import bend, bends, bends_below, nth_bend, passing
from foldvat.rows import columns
from foldvat.spots import way_of
from tests import by_hand

KINDS = ("hill", "dale")


def some_numbers(many, pick):
    """The first ones, the last one and some between of so many."""
    return sorted({number for number in (0, 1, many // 2, many - 1) if 0 <= number < many} |
                  {pick(many) for _ in range(3) if many > 0})


def kind_by_ways(places, row, place):
    """The bend of a place, by the ways of both neighbours alone."""
    one, other = way_of(places, row, place), way_of(places, row, place + 1)
    for deeds, deed in enumerate(row):
        if one[deeds + 1][0] == other[deeds + 1][0]:
            up = one[deeds][3] == "up"
            return "dale" if (deed[0] == "over") == up else "hill"
    return "flat"


class Long(unittest.TestCase):
    def setUp(self):
        self.cases = list(by_hand.long_cases())

    def test_the_so_manieth_has_so_many_below_it(self):
        for number, (places, row) in enumerate(self.cases):
            pick = by_hand.picker(number)
            for at, kind in enumerate(KINDS):
                many = bends(places, row)[at]
                for nth in some_numbers(many, pick):
                    place = nth_bend(places, row, kind, nth)
                    self.assertEqual(bends_below(places, row, place)[at], nth)
                    self.assertEqual(bends_below(places, row, place + 1)[at], nth + 1)
                    self.assertEqual(bend(places, row, place), kind)
                    self.assertEqual(kind_by_ways(places, row, place), kind)
                self.assertIsNone(nth_bend(places, row, kind, many))

    def test_others_are_as_their_ways_tell(self):
        for number, (places, row) in enumerate(self.cases):
            pick = by_hand.picker(number)
            for place in [0, places // 2 - 1, places // 2, places - 2] + [pick(places - 1) for _ in range(4)]:
                for deeds in (0, 1, 20, 40):
                    self.assertEqual(bend(places, row[:deeds], place), kind_by_ways(places, row[:deeds], place))

    def test_the_bends_of_the_folds_add_up(self):
        for places, row in self.cases:
            made = 0
            for deeds, deed in enumerate(row):
                ahead, behind = bends(places, row[:deeds]), bends(places, row[:deeds + 1])
                if deed[0] == "turn":
                    self.assertEqual(behind, ahead)
                    continue
                more = (behind[0] - ahead[0], behind[1] - ahead[1])
                passed = passing(places, row[:deeds], deed[1])
                self.assertEqual(sum(more), passed)
                made += passed
                # The other way makes hills of what were dales.
                word = "under" if deed[0] == "over" else "over"
                about = bends(places, [*row[:deeds], (word, deed[1])])
                self.assertEqual((about[1] - ahead[1], about[0] - ahead[0]), more)
            self.assertEqual(sum(bends(places, row)), made)

    def test_told_from_the_other_end(self):
        # Turned ahead of all, the strip folds as one whose places are numbered from its other end, faces down.
        for number, (places, row) in enumerate(self.cases):
            pick = by_hand.picker(number)
            hills, dales = bends(places, row[:39])
            turned = [("turn",), *row[:39]]
            self.assertEqual(bends(places, turned), (dales, hills))
            for place in (1, places - 1, pick(places), pick(places)):
                below = bends_below(places, row[:39], place)
                self.assertEqual(bends_below(places, turned, places - 1 - place), (dales - below[1], hills - below[0]))
            if hills > 0:
                last = nth_bend(places, row[:39], "hill", hills - 1)
                self.assertEqual(nth_bend(places, turned, "dale", 0), places - 2 - last)

    def test_each_pair_passes_a_line_or_is_bent(self):
        for places, row in self.cases:
            for deeds in (0, 3):
                width = columns(places, row[:deeds])
                if width - 1 < 50:
                    passed = sum(passing(places, row[:deeds], line) for line in range(1, width))
                    self.assertEqual(passed + sum(bends(places, row[:deeds])), places - 1)
        size = 2 ** 40
        row = by_hand.halving(9 * size, 40)
        passed = sum(passing(9 * size, row, line) for line in range(1, columns(9 * size, row)))
        self.assertEqual(passed + sum(bends(9 * size, row)), 9 * size - 1)

    def test_short_strips_of_thick_places(self):
        # Where all lines are multiples of a size, the bends lie between the places of so many times fewer.
        size = 10 ** 28 - 1
        for places, row in by_hand.mixed_cases(30):
            wide = by_hand.widened(row, size)
            told = by_hand.bends(places, by_hand.courses(places, row)[-1])
            self.assertEqual(bends(places * size, wide), (told.count("hill"), told.count("dale")))
            for place, kind in enumerate(told):
                whole = (place + 1) * size - 1
                self.assertEqual(bend(places * size, wide, whole), kind)
                self.assertEqual(bend(places * size, wide, whole - 1), "flat")
                self.assertEqual(bend(places * size, wide, whole + 1), "flat")
                below = (told[:place].count("hill"), told[:place].count("dale"))
                self.assertEqual(bends_below(places * size, wide, whole), below)
            for kind in KINDS:
                those = [(place + 1) * size - 1 for place, one in enumerate(told) if one == kind] + [None]
                found = [nth_bend(places * size, wide, kind, number) for number in range(len(those))]
                self.assertEqual(found, those)


if __name__ == "__main__":
    unittest.main()
