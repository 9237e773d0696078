"""Point 4 for dips, counts and vats: long strips, rows of forty deeds, tall piles."""

import unittest

from foldvat.counts import looks, nth_taken, taken_below
from foldvat.dips import taken, takes
from foldvat.rows import columns, layers, stretches
from foldvat.spots import place_at, spot
from foldvat.vats import are_alike, first_marked, marks, marks_below
from tests import by_hand


def some_dips(places, row, pick):
    """Dips of the first stretch, of the last one, of all columns and of some, and of depths of all kinds."""
    told = stretches(places, row)
    width = columns(places, row)
    tallest = max(height for _, height in told)
    ends = [start - 1 for start, _ in told[1:]] + [width - 1]
    ranges = [(0, width - 1), (told[0][0], ends[0]), (told[-1][0], ends[-1]), (width - 1, width - 1)]
    for _ in range(2):
        first = pick(width)
        ranges.append((first, first + pick(width - first)))
    found = []
    for first, last in ranges:
        for depth in {1, 1 + pick(tallest), max(1, tallest - 1), tallest, tallest + 1}:
            found.append((by_hand.chosen(("above", "below"), pick), depth, first, last))
    return found


def lies_in(places, row, dip, place):
    """Whether a place takes a dip, as its spot says."""
    side, depth, first, last = dip
    column, above, beneath, _ = spot(places, row, place)
    return first <= column <= last and (above if side == "above" else beneath) < depth


def some_places(places, row, dip, pick):
    """Places anywhere, and at the columns of a dip, those at its edge too."""
    side, depth, first, last = dip
    found = [0, places - 1, pick(places), pick(places)]
    for column in (first, last, first + pick(last - first + 1)):
        height = layers(places, row, column)
        for deep in (depth - 1, depth, pick(height)):
            if deep < height:
                found.append(place_at(places, row, column, deep if side == "above" else height - 1 - deep))
    return found


class Dips(unittest.TestCase):
    def setUp(self):
        self.cases = []
        for number, (places, row) in enumerate(by_hand.long_cases()):
            pick = by_hand.picker(number + 20)
            for deeds, many in ((0, 1), (1, 1), (9, 2), (40, 7)):
                dips = some_dips(places, row[:deeds], pick)
                for _ in range(many):
                    self.cases.append((places, row[:deeds], by_hand.chosen(dips, pick), by_hand.picker(len(self.cases))))

    def test_a_place_takes_it_where_its_spot_says_so(self):
        for places, row, dip, pick in self.cases:
            for place in some_places(places, row, dip, pick):
                told = lies_in(places, row, dip, place)
                self.assertIs(takes(places, row, dip, place), told, (places, row, dip, place))
                more = taken_below(places, row, dip, place + 1) - taken_below(places, row, dip, place)
                self.assertEqual(more, 1 if told else 0, (places, row, dip, place))
                self.assertEqual(looks(places, row, dip, place, many=1), "#" if told else ".")

    def test_the_so_manieth_has_so_many_below_it(self):
        for places, row, dip, pick in self.cases:
            many = taken(places, row, dip)
            self.assertEqual(taken_below(places, row, dip, places), many)
            for number in {0, many // 2, many - 1, pick(many)}:
                place = nth_taken(places, row, dip, number)
                self.assertEqual(taken_below(places, row, dip, place), number)
                self.assertEqual(taken_below(places, row, dip, place + 1), number + 1)
                self.assertIs(takes(places, row, dip, place), True)
            self.assertIsNone(nth_taken(places, row, dip, many))

    def test_one_layer_more(self):
        # A dip that is one layer deeper takes of one column just the place that lies there, and no other one.
        for places, row, dip, pick in self.cases:
            side, _, first, last = dip
            column = first + pick(last - first + 1)
            height = layers(places, row, column)
            depth = 1 + pick(height)
            place = place_at(places, row, column, depth - 1 if side == "above" else height - depth)
            for number in (place, place + 1, pick(places)):
                ahead = 0
                if depth > 1:
                    ahead = taken_below(places, row, (side, depth - 1, column, column), number)
                more = taken_below(places, row, (side, depth, column, column), number) - ahead
                self.assertEqual(more, 1 if place < number else 0)

    def test_what_the_other_side_leaves(self):
        for places, row, dip, pick in self.cases:
            _, depth, column, _ = dip
            height = layers(places, row, column)
            if depth >= height:
                continue
            number = pick(places)
            both = [taken_below(places, row, (side, deep, column, column), number)
                    for side, deep in (("above", depth), ("below", height - depth))]
            self.assertEqual(sum(both), taken_below(places, row, ("above", height, column, column), number))

    def test_all_columns_deeper_than_all(self):
        for places, row, _, pick in self.cases:
            dip = (("above", "below")[pick(2)], 10 ** 39, 0, columns(places, row) - 1)
            self.assertEqual(taken(places, row, dip), places)
            for number in (0, 1, pick(places), places):
                self.assertEqual(taken_below(places, row, dip, number), number)
            number = pick(places)
            self.assertEqual(nth_taken(places, row, dip, number), number)

    def test_told_from_the_other_end(self):
        # Turned ahead of all, the strip folds as one whose places are numbered from its other end.
        for places, row, _, pick in self.cases:
            turned = [("turn",), *row[:39]]
            dip = some_dips(places, turned, pick)[0]
            many = taken(places, turned, dip)
            self.assertEqual(taken(places, row[:39], dip), many)
            number = pick(places)
            self.assertEqual(taken_below(places, turned, dip, number),
                             many - taken_below(places, row[:39], dip, places - number))
            nth = pick(many)
            self.assertEqual(nth_taken(places, turned, dip, nth),
                             places - 1 - nth_taken(places, row[:39], dip, many - 1 - nth))

    def test_looks_as_the_places_tell(self):
        for places, row, dip, pick in self.cases[::5]:
            place = by_hand.chosen(some_places(places, row, dip, pick), pick)
            start = max(0, place - 8)
            told = "".join("#" if lies_in(places, row, dip, one) else "." for one in range(start, min(start + 16, places)))
            self.assertEqual(looks(places, row, dip, start, many=16), told)
            self.assertEqual(looks(places, row, dip, start, many=2000)[:16], told)


class Vats(unittest.TestCase):
    def setUp(self):
        self.cases = []
        for number, (places, row) in enumerate(by_hand.long_cases()):
            pick = by_hand.picker(number + 90)
            for _ in range(3):
                dips = []
                for _ in range(1 + pick(3)):
                    deeds = by_hand.chosen((0, 1, 40, pick(41), pick(41)), pick)
                    dips.append((deeds, by_hand.chosen(some_dips(places, row[:deeds], pick), pick)))
                self.cases.append((places, (row, dips), by_hand.picker(len(self.cases))))

    def mark(self, places, vat, place):
        row, dips = vat
        return tuple(number for number, (deeds, dip) in enumerate(dips) if lies_in(places, row[:deeds], dip, place))

    def test_the_many_of_all_marks_add_up(self):
        for places, vat, pick in self.cases:
            told = marks(places, vat)
            self.assertEqual(sum(told.values()), places)
            self.assertTrue(all(many > 0 for many in told.values()))
            self.assertEqual(list(told), sorted(told))
            self.assertEqual(marks_below(places, vat, places), told)
            for number in (0, 1, pick(places), places - 1):
                self.assertEqual(sum(marks_below(places, vat, number).values()), number)

    def test_each_dip_is_taken_by_as_many_as_it_says(self):
        for places, vat, pick in self.cases:
            row, dips = vat
            for number in (places, pick(places)):
                told = marks_below(places, vat, number)
                for at, (deeds, dip) in enumerate(dips):
                    many = sum(those for mark, those in told.items() if at in mark)
                    self.assertEqual(many, taken_below(places, row[:deeds], dip, number))

    def test_each_place_adds_its_own_mark(self):
        for places, vat, pick in self.cases:
            row, dips = vat
            chosen = [pick(places)]
            for deeds, dip in dips:
                chosen += some_places(places, row[:deeds], dip, pick)[:6:2]
            for place in chosen:
                ahead, behind = marks_below(places, vat, place), marks_below(places, vat, place + 1)
                more = {mark: behind[mark] - ahead.get(mark, 0) for mark in behind if behind[mark] != ahead.get(mark, 0)}
                self.assertEqual(more, {self.mark(places, vat, place): 1}, (places, vat, place))

    def test_the_least_place_of_a_mark(self):
        for places, vat, _ in self.cases:
            told = marks(places, vat)
            for mark in by_hand.all_marks(len(vat[1])):
                place = first_marked(places, vat, mark)
                self.assertEqual(place is None, mark not in told)
                if place is not None:
                    self.assertEqual(self.mark(places, vat, place), mark)
                    self.assertNotIn(mark, marks_below(places, vat, place))
                    self.assertEqual(marks_below(places, vat, place + 1)[mark], 1)

    def test_alike_where_no_mark_parts_them(self):
        for places, vat, _ in self.cases:
            told = marks(places, vat)
            for one in range(len(vat[1])):
                for other in range(len(vat[1])):
                    parted = any((one in mark) != (other in mark) for mark in told)
                    self.assertIs(are_alike(places, vat, one, other), not parted)

    def test_the_same_dip_in_other_words(self):
        for places, row in by_hand.long_cases():
            width = columns(places, row[:39])
            # What all lies on and a turn behind it: the same dip from the other side.
            turned = [*row[:39], ("turn",)]
            for depth in (1, 3, 10 ** 12):
                dips = [(39, ("above", depth, 0, width - 1)), (40, ("below", depth, 0, width - 1)),
                        (39, ("above", depth, 0, width - 1))]
                self.assertIs(are_alike(places, (turned, dips), 0, 1), True)
                self.assertIs(are_alike(places, (turned, dips), 1, 2), True)
            dips = [(39, ("above", 1, 0, 0)), (40, ("below", 1, width - 1, width - 1)), (0, ("above", 1, 0, 0))]
            self.assertIs(are_alike(places, (turned, dips), 0, 1), True)
            place = place_at(places, row[:39], 0, 0)
            self.assertIs(are_alike(places, (turned, dips), 1, 2), place == 0)
            self.assertEqual(first_marked(places, (turned, dips), (0, 1, 2) if place == 0 else (0, 1)), place)


class Thick(unittest.TestCase):
    """Where all lines are multiples of a size, the strip folds as one of so many times fewer places does."""

    SIZE = 10 ** 28 - 1

    def wide(self, dip):
        side, depth, first, last = dip
        return (side, depth, first * self.SIZE, (last + 1) * self.SIZE - 1)

    def test_dips(self):
        pick = by_hand.picker(31)
        for places, row in by_hand.mixed_cases(30):
            piles = by_hand.courses(places, row)[-1]
            dip = by_hand.some_dip(piles, pick)
            those = sorted(by_hand.dyed(piles, dip))
            asked = (places * self.SIZE, by_hand.widened(row, self.SIZE), self.wide(dip))
            self.assertEqual(taken(*asked), len(those) * self.SIZE)
            for number, place in enumerate(those):
                within = pick(self.SIZE)
                self.assertEqual(nth_taken(*asked, number * self.SIZE + within), place * self.SIZE + within)
                self.assertEqual(taken_below(*asked, place * self.SIZE + within), number * self.SIZE + within)
            for place in range(places - 1):
                told = "".join("#" if one in those else "." for one in (place, place + 1))
                ends = looks(*asked, (place + 1) * self.SIZE - 1000, many=2000)
                self.assertEqual(ends, told[0] * 1000 + told[1] * 1000)

    def test_vats(self):
        pick = by_hand.picker(32)
        for places, row in by_hand.mixed_cases(60):
            (row, dips), told = by_hand.some_vat(places, row, pick)
            wide = (by_hand.widened(row, self.SIZE), [(deeds, self.wide(dip)) for deeds, dip in dips])
            many = {mark: told.count(mark) * self.SIZE for mark in sorted(set(told))}
            self.assertEqual(marks(places * self.SIZE, wide), many)
            for mark in by_hand.all_marks(len(dips)):
                place = told.index(mark) * self.SIZE if mark in told else None
                self.assertEqual(first_marked(places * self.SIZE, wide, mark), place)


if __name__ == "__main__":
    unittest.main()
