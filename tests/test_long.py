"""Point 4: the promise of the whole, at long strips and rows of forty deeds."""

import unittest

from foldvat.rows import by_layers, columns, is_row, layers, stretches
from foldvat.spots import place_at, run_now, spot, way_of
from tests import by_hand


def some_places(places, seed):
    pick = by_hand.picker(seed)
    ends = [place for place in (0, 1, places // 2, places - 2, places - 1) if 0 <= place]
    return ends + [pick(places) for _ in range(12)]


def some_columns(places, row):
    """The first and last column of each stretch."""
    starts = [start for start, _ in stretches(places, row)]
    return starts + [start - 1 for start in starts[1:]] + [columns(places, row) - 1]


def lands(column, face, width, deed):
    """Column and face of a place carried by itself, which needs nothing of what else lies there."""
    if deed[0] == "turn":
        return width - 1 - column, not face
    line = deed[1]
    shift = max(0, width - 2 * line)
    if column < line:
        return column + shift, face
    return 2 * line - 1 - column + shift, not face


class Long(unittest.TestCase):
    def setUp(self):
        self.cases = list(by_hand.long_cases())

    def test_cases_are_as_long_as_told(self):
        self.assertTrue(all(len(row) == 40 for _, row in self.cases))
        self.assertTrue(all(is_row(places, row) for places, row in self.cases))
        self.assertEqual(self.cases[0][0], by_hand.LONGEST)
        self.assertEqual(stretches(*self.cases[1]), [(0, 2 ** 40)])

    def test_spot_and_place_agree(self):
        for number, (places, row) in enumerate(self.cases):
            for place in some_places(places, number):
                for deeds in (0, 1, 20, 39, 40):
                    column, above, beneath, _ = spot(places, row[:deeds], place)
                    self.assertEqual(place_at(places, row[:deeds], column, above), place)
                    self.assertEqual(above + 1 + beneath, layers(places, row[:deeds], column))

    def test_place_and_spot_agree(self):
        for number, (places, row) in enumerate(self.cases):
            pick = by_hand.picker(number)
            for column in some_columns(places, row):
                height = layers(places, row, column)
                for depth in (0, height // 2, height - 1, pick(height)):
                    place = place_at(places, row, column, depth)
                    self.assertEqual(spot(places, row, place)[:3], (column, depth, height - 1 - depth))

    def test_each_place_carried_by_itself(self):
        for number, (places, row) in enumerate(self.cases):
            for place in some_places(places, number + 50):
                column, face, width = place, True, places
                way = way_of(places, row, place)
                self.assertEqual(way[0], (place, 0, 0, "up"))
                for deed, told in zip(row, way[1:]):
                    column, face = lands(column, face, width, deed)
                    width = by_hand.width_behind(width, deed)
                    self.assertEqual((told[0], told[3]), (column, "up" if face else "down"))
                self.assertEqual(columns(places, row), width)
                self.assertEqual(way[-1], spot(places, row, place))

    def test_layers_add_up_to_the_places(self):
        for places, row in self.cases:
            for deeds in range(0, 41, 8):
                told = stretches(places, row[:deeds])
                ends = [start for start, _ in told[1:]] + [columns(places, row[:deeds])]
                self.assertEqual(sum(height * (end - start) for (start, height), end in zip(told, ends)), places)
                self.assertEqual(told[0][0], 0)
                self.assertTrue(all(one[0] < other[0] and one[1] != other[1] for one, other in zip(told, told[1:])))
                self.assertTrue(all(height > 0 for _, height in told))
                rising = by_layers(places, row[:deeds])
                self.assertEqual(sum(height * many for height, many in rising), places)
                self.assertEqual(sum(many for _, many in rising), columns(places, row[:deeds]))
                self.assertEqual([height for height, _ in rising], sorted({height for _, height in told}))

    def test_piles_stand_as_told(self):
        for number, (places, row) in enumerate(self.cases):
            pick = by_hand.picker(number)
            for deeds in (0, 1, 7, 20, 39, 40):
                width = columns(places, row[:deeds])
                for column in (0, width - 1, pick(width), pick(width)):
                    self.stands(places, row, deeds, column, pick)

    def stands(self, places, row, deeds, column, pick):
        height = layers(places, row[:deeds], column)
        now, above, beneath, turned = run_now(places, row, deeds, column)
        self.assertEqual(above + height + beneath, layers(places, row, now))
        for depth in (0, height - 1, pick(height)):
            place = place_at(places, row[:deeds], column, depth)
            within = height - 1 - depth if turned else depth
            told = spot(places, row, place)
            self.assertEqual(told[:2], (now, above + within))
            self.assertEqual(told[3] != spot(places, row[:deeds], place)[3], turned)

    def test_short_strips_of_thick_places(self):
        # Where all lines are multiples of a size, the strip folds as one of so many times fewer places does.
        size = 10 ** 28 - 1
        for places, row in by_hand.mixed_cases(30):
            wide = by_hand.widened(row, size)
            piles = by_hand.courses(places, row)[-1]
            for place, (column, above, beneath, face) in by_hand.spots(piles).items():
                for within in (0, 3, size - 1):
                    lies = column * size + (within if face == "up" else size - 1 - within)
                    whole = place * size + within
                    self.assertEqual(spot(places * size, wide, whole), (lies, above, beneath, face))
                    self.assertEqual(place_at(places * size, wide, lies, above), whole)
            short = [(start * size, height) for start, height in stretches(places, row)]
            self.assertEqual(stretches(places * size, wide), short)


if __name__ == "__main__":
    unittest.main()
