"""Point 4 for Strips: far ones, forty deeds, forty dips: what is told is that of the rows that stood and the dips."""

import unittest

from foldvat import counts, dips, spots, vats
from foldvat.errors import Full, NoVat
from foldvat.strips import Strip, strip_of
from tests import by_hand
from tests import by_hand_strips as hands

LONGEST = by_hand.LONGEST


def far_strips():
    """Strips on which forty deeds stand and forty dips were done, and something that picks numbers."""
    for seed in range(5):
        places = LONGEST - seed * 10 ** 28
        history = hands.far_history(places, 300 if seed == 0 else 110 + 9 * seed, seed + 7)
        yield strip_of(places, history), history, by_hand.picker(seed)


class Far(unittest.TestCase):
    def test_as_long_as_told(self):
        for strip, history, _ in far_strips():
            self.assertEqual(strip.history(), history)
            self.assertEqual((len(strip.row()), len(strip)), (40, 40))
            self.assertRaises(Full, strip.turn)
            self.assertRaises(Full, strip.dip, "above", 1, 0, 0)
            rows = []
            row = []
            for deed in history:
                if deed[0] == "dip":
                    rows.append((list(row), deed[1:]))
                elif deed[0] == "open":
                    row.pop()
                else:
                    row.append(deed)
            self.assertEqual((strip.row(), strip.dips()), (row, rows))

    def test_spots_and_papers_are_those_of_the_rows(self):
        for strip, _, pick in far_strips():
            for place in (0, strip.places() - 1, pick(strip.places())):
                self.assertEqual(strip.spot(place), spots.spot(strip.places(), strip.row(), place))
                papers = [spots.spot(strip.places(), row, place) for row, _ in strip.dips()]
                self.assertEqual(strip.paper(place), papers)
                took = [number for number, (row, dip) in enumerate(strip.dips())
                        if dips.takes(strip.places(), row, dip, place)]
                self.assertEqual(strip.dyes(place), took)

    def test_places_that_took_a_dip_say_so(self):
        for strip, _, pick in far_strips():
            for number, (row, dip) in enumerate(strip.dips()):
                many = strip.taken(number)
                self.assertEqual(many, dips.taken(strip.places(), row, dip))
                nth = pick(many)
                place = strip.nth_taken(number, nth)
                self.assertEqual(place, counts.nth_taken(strip.places(), row, dip, nth))
                self.assertEqual(strip.taken_below(number, place), nth)
                self.assertIn(number, strip.dyes(place))
                self.assertIsNone(strip.nth_taken(number, many))
                below = pick(strip.places() + 1)
                self.assertEqual(strip.taken_below(number, below), counts.taken_below(strip.places(), row, dip, below))

    def test_dyes_are_what_the_papers_say(self):
        for strip, _, pick in far_strips():
            for number in range(0, 40, 5):
                place = strip.nth_taken(number, pick(strip.taken(number)))
                took = []
                for at, ((column, above, beneath, _), (_, dip)) in enumerate(zip(strip.paper(place), strip.dips())):
                    side, depth, first, last = dip
                    if first <= column <= last and (above if side == "above" else beneath) < depth:
                        took.append(at)
                self.assertEqual(strip.dyes(place), took)

    def test_marks_are_those_of_a_vat(self):
        let = {True: 0, False: 0}
        for strip, _, pick in far_strips():
            told = strip.dips()
            for _ in range(40):
                choice = sorted({pick(40) for _ in range(1 + pick(3))}, key=lambda number: -number)
                chosen = [told[number] for number in choice]
                row = max([row for row, _ in chosen], key=len)
                fits = all(part == row[:len(part)] for part, _ in chosen)
                let[fits] += 1
                if not fits:
                    self.assertRaises(NoVat, strip.marks, choice)
                    continue
                found = strip.marks(choice)
                self.assertEqual(found, vats.marks(strip.places(), (row, [(len(part), dip) for part, dip in chosen])))
                self.assertEqual(sum(found.values()), strip.places())
                for at, number in enumerate(choice):
                    self.assertEqual(sum(many for mark, many in found.items() if at in mark), strip.taken(number))
        self.assertGreater(min(let.values()), 10)

    def test_an_opened_strip_lies_as_it_did(self):
        strip = Strip(LONGEST)
        ways = []
        place = 10 ** 29 + 7
        for deed in by_hand.halving(LONGEST, 40):
            ways.append(strip.spot(place))
            strip.fold(*deed)
        self.assertEqual([*ways, strip.spot(place)], spots.way_of(LONGEST, strip.row(), place))
        while ways:
            strip.open_up()
            self.assertEqual(strip.spot(place), ways.pop())


if __name__ == "__main__":
    unittest.main()
