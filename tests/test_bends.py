"""Points 11 and 12: bends, pairs that pass a line, hills and dales, the so-manieth of them."""

import unittest

from foldvat.bends import bend, bends, bends_below, nth_bend, passing
from foldvat.errors import NoKind, NoLine, NoNumber, NoPlace
from foldvat.rows import columns
from tests import by_hand, heads

LONGEST = by_hand.LONGEST
HALF = LONGEST // 2
FORTY = by_hand.halving(LONGEST, 40)


class Kinds(unittest.TestCase):
    def test_over_makes_a_dale_and_under_a_hill(self):
        self.assertEqual([bend(3, [("over", 1)], place) for place in range(2)], ["dale", "flat"])
        self.assertEqual([bend(3, [("under", 2)], place) for place in range(2)], ["flat", "hill"])
        self.assertEqual(bend(LONGEST, [("over", HALF)], HALF - 1), "dale")
        self.assertEqual(bend(LONGEST, [("over", HALF)], HALF), "flat")

    def test_faces_that_look_down_bend_the_other_way(self):
        self.assertEqual(bend(2, [("turn",), ("over", 1)], 0), "hill")
        self.assertEqual(bend(2, [("turn",), ("under", 1)], 0), "dale")
        self.assertEqual([bend(4, [("over", 2), ("over", 1)], place) for place in range(3)], ["dale", "dale", "hill"])

    def test_a_bend_stays_for_ever(self):
        for word, kind in (("over", "dale"), ("under", "hill")):
            row = [(word, 2), ("turn",), ("over", 1), ("turn",), ("turn",)]
            for many in range(1, 6):
                self.assertEqual(bend(5, row[:many], 1), kind)

    def test_as_folded_by_hand(self):
        for places, row in by_hand.small_cases():
            told = by_hand.bends(places, by_hand.courses(places, row)[-1])
            self.assertEqual([bend(places, row, place) for place in range(places - 1)], told, (places, row))

    def test_no_deed_and_turns_alone_bend_nothing(self):
        for row in ([], [("turn",)] * 40):
            self.assertEqual(bend(LONGEST, row, 0), "flat")
            self.assertEqual(bend(LONGEST, row, LONGEST - 2), "flat")

    def test_the_last_place_has_none(self):
        for places, row in ((1, []), (1, [("turn",)] * 40), (2, [("over", 1)]), (5, []), (LONGEST, FORTY)):
            for number, place in enumerate(by_hand.no_whole_numbers(0, places - 2)):
                with self.subTest((places, number)):
                    self.assertRaises(NoPlace, bend, places, row, place)
        self.assertEqual(bend(5, [], 3), "flat")


class Passing(unittest.TestCase):
    def test_a_few_by_sight(self):
        self.assertEqual([passing(5, [], line) for line in range(1, 5)], [1, 1, 1, 1])
        self.assertEqual([passing(5, [("over", 2)], line) for line in (1, 2)], [1, 2])
        self.assertEqual(passing(4, [("over", 2), ("turn",)], 1), 2)
        self.assertEqual(passing(LONGEST, [], 1), 1)
        self.assertEqual(passing(LONGEST, [], LONGEST - 1), 1)
        self.assertEqual(passing(2 ** 41, by_hand.halving(2 ** 41, 40), 1), 2 ** 40)

    def test_as_folded_by_hand(self):
        for places, row in by_hand.small_cases():
            piles = by_hand.courses(places, row)[-1]
            for line in range(1, len(piles)):
                told = by_hand.pairs_passing(places, piles, line)
                self.assertEqual(passing(places, row, line), told, (places, row, line))

    def test_no_line(self):
        cases = ((1, []), (2, [("over", 1)]), (2, []), (5, []), (5, [("over", 1)]), (9, [("over", 4), ("turn",)]))
        for places, row in (*cases, (LONGEST, []), (LONGEST, FORTY)):
            for number, line in enumerate(by_hand.no_whole_numbers(1, columns(places, row) - 1)):
                with self.subTest((places, row, number)):
                    self.assertRaises(NoLine, passing, places, row, line)

    def test_0_and_the_columns_are_no_lines(self):
        self.assertRaises(NoLine, passing, 5, [("over", 2)], 0)
        self.assertRaises(NoLine, passing, 5, [("over", 2)], 3)
        self.assertEqual(passing(5, [("over", 2)], 2), 2)


class Many(unittest.TestCase):
    def test_a_few_by_sight(self):
        self.assertEqual(bends(5, []), (0, 0))
        self.assertEqual(bends(5, [("over", 2)]), (0, 1))
        self.assertEqual(bends(4, [("over", 2), ("over", 1)]), (1, 2))
        self.assertEqual(bends(4, [("over", 2), ("under", 1)]), (1, 2))
        self.assertEqual(bends(2, [("turn",), ("over", 1)]), (1, 0))
        self.assertEqual(bends(1, [("turn",)] * 40), (0, 0))
        self.assertEqual(bends(LONGEST, [("under", LONGEST - 1 - number) for number in range(40)]), (40, 0))
        # What is turned here is all of the strip but one end, so that it is folded face down each second time.
        self.assertEqual(bends(LONGEST, [("under", 1)] * 40), (20, 20))

    def test_halving_bends_all(self):
        hills, dales = bends(2 ** 40, by_hand.halving(2 ** 40, 40))
        self.assertEqual(hills + dales, 2 ** 40 - 1)

    def test_as_folded_by_hand(self):
        for places, row in by_hand.small_cases():
            told = by_hand.bends(places, by_hand.courses(places, row)[-1])
            self.assertEqual(bends(places, row), (told.count("hill"), told.count("dale")), (places, row))
            for number in range(places + 1):
                below = (told[:number].count("hill"), told[:number].count("dale"))
                self.assertEqual(bends_below(places, row, number), below, (places, row, number))

    def test_first_and_last_numbers(self):
        for places, row in ((1, []), (2, [("over", 1)]), (5, [("over", 4), ("under", 2)]), (LONGEST, FORTY)):
            self.assertEqual(bends_below(places, row, 0), (0, 0))
            self.assertEqual(bends_below(places, row, places), bends(places, row))
            self.assertEqual(bends_below(places, row, places - 1), bends(places, row))

    def test_kinds_of_what_is_told(self):
        for told in (bends(7, [("over", 3)]), bends_below(7, [("over", 3)], 7), bends(1, [])):
            self.assertIs(type(told), tuple)
            self.assertEqual([type(part) for part in told], [int, int])
        self.assertIs(type(passing(7, [("over", 3)], 1)), int)
        self.assertIs(type(nth_bend(7, [("over", 3)], "dale", 0)), int)

    def test_no_number(self):
        for places in (1, 2, 5, LONGEST):
            for number, wrong in enumerate(by_hand.no_whole_numbers(0, places)):
                with self.subTest((places, number)):
                    self.assertRaises(NoNumber, bends_below, places, [("turn",)], wrong)


class Nth(unittest.TestCase):
    def test_a_few_by_sight(self):
        row = [("over", 2), ("over", 1)]
        self.assertEqual([nth_bend(4, row, "dale", number) for number in range(3)], [0, 1, None])
        self.assertEqual([nth_bend(4, row, "hill", number) for number in range(2)], [2, None])
        self.assertIsNone(nth_bend(1, [], "hill", 0))
        self.assertIsNone(nth_bend(LONGEST, [], "dale", 0))
        self.assertEqual(nth_bend(LONGEST, [("over", LONGEST - 1)], "dale", 0), LONGEST - 2)
        self.assertEqual(nth_bend(LONGEST, [("under", 1)], "hill", 0), 0)

    def test_as_folded_by_hand(self):
        for places, row in by_hand.small_cases():
            told = by_hand.bends(places, by_hand.courses(places, row)[-1])
            for kind in ("hill", "dale"):
                those = [place for place, one in enumerate(told) if one == kind]
                found = [nth_bend(places, row, kind, number) for number in range(len(those) + 2)]
                self.assertEqual(found, [*those, None, None], (places, row, kind))

    def test_far_beyond(self):
        for number in (10 ** 39, 10 ** 40 - 1, 10 ** 60):
            self.assertIsNone(nth_bend(9, [("over", 4)], "dale", number))

    def test_no_kind(self):
        things = ["", "Hill", "hills", "flat", "dale ", "hil", "up", "hilldale", b"hill", ("hill",), ["dale"],
                  {"hill"}, by_hand.Pretender(str)]
        for number, kind in enumerate(things + by_hand.neither_whole_nor_told() + [0, 1]):
            with self.subTest(number):
                self.assertRaises(NoKind, nth_bend, 5, [("over", 2)], kind, 0)
                self.assertRaises(NoKind, nth_bend, 5, [("over", 2)], kind, -1)

    def test_no_number(self):
        for number, wrong in enumerate(by_hand.neither_whole_nor_told() + [-1, -2, -10 ** 39]):
            for kind in ("hill", "dale"):
                with self.subTest((number, kind)):
                    self.assertRaises(NoNumber, nth_bend, 5, [("over", 2)], kind, wrong)


class Heads(heads.Heads, unittest.TestCase):
    def calls(self, places, row):
        return [(bend, places, row, 0), (passing, places, row, 1), (bends, places, row),
                (bends_below, places, row, 0), (nth_bend, places, row, "hill", 0)]


if __name__ == "__main__":
    unittest.main()
