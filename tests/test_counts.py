"""Points 15 and 16: how many places below a number take a dip, the so-manieth, how the strip looks."""

import inspect
import unittest

from foldvat.counts import looks, nth_taken, taken_below
from foldvat.dips import taken
from foldvat.errors import NoDip, NoNumber, NoPlace
from tests import by_hand, heads
from tests.test_dips import no_dips_of_five

LONGEST = by_hand.LONGEST
ROW = [("over", 3), ("turn",), ("under", 1)]
DIP = ("above", 1, 0, 1)


def small_dips():
    """Places, a row, a dip and the places that take it."""
    pick = by_hand.picker(12)
    for places, row in ((1, []), (1, [("turn",)]), (5, [("over", 2), ("turn",)]), (6, ROW)):
        piles = by_hand.courses(places, row)[-1]
        for dip in by_hand.all_dips(piles):
            yield places, row, dip, by_hand.dyed(piles, dip)
    for places, row in by_hand.small_cases():
        piles = by_hand.courses(places, row)[-1]
        dip = by_hand.some_dip(piles, pick)
        yield places, row, dip, by_hand.dyed(piles, dip)


class Below(unittest.TestCase):
    def test_a_few_by_sight(self):
        dip = ("above", 1, 0, 2)
        self.assertEqual([taken_below(5, [("over", 2)], dip, number) for number in range(6)], [0, 0, 0, 1, 2, 3])
        self.assertEqual(taken_below(LONGEST, [], ("below", 1, 7, LONGEST - 2), LONGEST), LONGEST - 8)
        self.assertEqual(taken_below(LONGEST, [], ("below", 1, 7, LONGEST - 2), 10), 3)

    def test_as_folded_by_hand(self):
        for places, row, dip, those in small_dips():
            for number in range(places + 1):
                below = len([place for place in those if place < number])
                self.assertEqual(taken_below(places, row, dip, number), below, (places, row, dip, number))

    def test_first_and_last_numbers(self):
        forty = by_hand.halving(LONGEST, 40)
        for places, row, dip in ((1, [], ("above", 1, 0, 0)), (6, ROW, DIP), (LONGEST, forty, ("below", 7, 0, 99))):
            self.assertEqual(taken_below(places, row, dip, 0), 0)
            self.assertEqual(taken_below(places, row, dip, places), taken(places, row, dip))

    def test_no_number(self):
        for places, row in ((1, []), (5, ROW), (LONGEST, [("over", 5)])):
            for number, wrong in enumerate(by_hand.no_whole_numbers(0, places)):
                with self.subTest((places, number)):
                    self.assertRaises(NoNumber, taken_below, places, row, ("above", 1, 0, 0), wrong)


class Nth(unittest.TestCase):
    def test_a_few_by_sight(self):
        self.assertEqual([nth_taken(5, [("over", 2)], ("below", 1, 0, 1), number) for number in range(3)],
                         [0, 4, None])
        self.assertEqual(nth_taken(1, [], ("above", 1, 0, 0), 0), 0)
        self.assertIsNone(nth_taken(1, [], ("above", 1, 0, 0), 1))
        self.assertEqual(nth_taken(LONGEST, [], ("above", 1, 5, LONGEST - 1), 10 ** 29), 10 ** 29 + 5)
        self.assertEqual(nth_taken(LONGEST, [], ("above", 1, 5, LONGEST - 1), LONGEST - 6), LONGEST - 1)
        self.assertIsNone(nth_taken(LONGEST, [], ("above", 1, 5, LONGEST - 1), LONGEST - 5))

    def test_as_folded_by_hand(self):
        for places, row, dip, those in small_dips():
            found = [nth_taken(places, row, dip, number) for number in range(len(those) + 2)]
            self.assertEqual(found, [*sorted(those), None, None], (places, row, dip))

    def test_far_beyond(self):
        for number in (10 ** 39, 10 ** 40 - 1, 10 ** 60):
            self.assertIsNone(nth_taken(5, ROW, ("above", 1, 0, 0), number))

    def test_kinds_of_what_is_told(self):
        self.assertIs(type(nth_taken(6, ROW, DIP, 0)), int)
        self.assertIs(type(taken_below(6, ROW, DIP, 5)), int)

    def test_no_number(self):
        for number, wrong in enumerate(by_hand.neither_whole_nor_told() + [-1, -2, -10 ** 39]):
            with self.subTest(number):
                self.assertRaises(NoNumber, nth_taken, 5, [], ("above", 1, 0, 4), wrong)


class Looks(unittest.TestCase):
    def test_a_few_by_sight(self):
        row = [("over", 2)]
        self.assertEqual(looks(5, row, ("above", 1, 0, 2), 0), "..###")
        self.assertEqual(looks(5, row, ("below", 1, 0, 1), 0), "#...#")
        self.assertEqual(looks(5, row, ("below", 1, 0, 1), 3, many=1), ".")
        self.assertEqual(looks(5, row, ("below", 1, 0, 1), 4), "#")
        self.assertEqual(looks(1, [], ("below", 1, 0, 0), 0), "#")

    def test_as_folded_by_hand(self):
        for places, row, dip, those in small_dips():
            text = "".join("#" if place in those else "." for place in range(places))
            for place in {0, 1, places // 2, places - 2, places - 1}:
                if 0 <= place < places:
                    self.assertEqual(looks(places, row, dip, place), text[place:place + 64], (places, row, dip))
                    for many in (0, 1, 2, 7, places, 2000):
                        told = looks(places, row, dip, place, many=many)
                        self.assertEqual(told, text[place:place + many], (places, row, dip, place, many))

    def test_none_one_and_the_most(self):
        row = [("over", 1000), ("under", 3), ("over", 300)]
        for dip in (("above", 2, 0, 5), ("below", 1, 3, 90)):
            those = by_hand.dyed(by_hand.courses(5000, row)[-1], dip)
            text = "".join("#" if place in those else "." for place in range(5000))
            for place in (0, 1, 2999, 3000, 3001, 4999):
                for many in (0, 1, 64, 1999, 2000):
                    self.assertEqual(looks(5000, row, dip, place, many=many), text[place:place + many])
        self.assertEqual(looks(LONGEST, [], ("above", 1, 5, 6), 0, many=2000), "....." + "##" + "." * 1993)
        self.assertEqual(looks(LONGEST, [], ("above", 1, 5, 6), LONGEST - 3, many=2000), "...")

    def test_sixty_four_where_none_are_told(self):
        self.assertEqual(looks(LONGEST, [], ("above", 1, 63, LONGEST - 1), 0), "." * 63 + "#")
        self.assertEqual(looks(LONGEST, [], ("above", 1, 63, LONGEST - 1), LONGEST - 64), "#" * 64)
        self.assertEqual(looks(LONGEST, [], ("above", 1, 63, LONGEST - 1), LONGEST - 63), "#" * 63)

    def test_many_is_told_by_its_name_alone(self):
        told = inspect.signature(looks).parameters["many"]
        self.assertEqual((told.kind, told.default), (told.KEYWORD_ONLY, 64))

    def test_no_number(self):
        for number, wrong in enumerate(by_hand.no_whole_numbers(0, 2000)):
            with self.subTest(number):
                self.assertRaises(NoNumber, looks, LONGEST, [], ("above", 1, 0, 4), 0, many=wrong)

    def test_no_place(self):
        for places in (1, 5, LONGEST):
            for number, place in enumerate(by_hand.no_whole_numbers(0, places - 1)):
                with self.subTest((places, number)):
                    self.assertRaises(NoPlace, looks, places, [], ("above", 1, 0, 0), place)
                    self.assertRaises(NoPlace, looks, places, [], ("above", 1, 0, 0), place, many=0)


class Heads(heads.Heads, unittest.TestCase):
    def calls(self, places, row, dip=("above", 1, 0, 0)):
        return [(taken_below, places, row, dip, 0), (nth_taken, places, row, dip, 0), (looks, places, row, dip, 0)]

    def test_no_dip(self):
        for number, dip in enumerate(no_dips_of_five()):
            self.refuse(NoDip, self.calls(5, [], dip), number)


if __name__ == "__main__":
    unittest.main()
