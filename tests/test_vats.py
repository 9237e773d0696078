"""Points 17, 18 and 19: vats, marks and how many have them, the least place of a mark, dips that are alike."""

import unittest

from foldvat.errors import NoMark, NoNumber, NoPlaces, NoVat
from foldvat.vats import are_alike, first_marked, is_vat, marks, marks_below
from tests import by_hand
from tests.test_dips import no_dips_of_five

LONGEST = by_hand.LONGEST
ROW = [("over", 3), ("turn",), ("under", 2)]
ALL = (0, ("above", 1, 0, 4))
PARTS = [(0, ("above", 1, 1, 3)), (1, ("below", 1, 1, 2)), (3, ("above", 2, 0, 1))]
VAT = (ROW, PARTS)


def no_vats_of_five():
    """Things that are no vat of a strip of five places."""
    parts = [(deeds, ("above", 1, 0, 0)) for deeds in by_hand.no_whole_numbers(0, 3)]
    parts += [(0, dip) for dip in no_dips_of_five()]
    parts += [(1, ("above", 1, 0, 3)), (3, ("above", 1, 0, 2)), (3, ("above", 1, 2, 2))]
    parts += [(), (0,), (0, ("above", 1, 0, 0), 0), (("above", 1, 0, 0), 0), (0, "above", 1, 0, 0), ("above", 1, 0, 0)]
    parts += by_hand.neither_whole_nor_told()
    things = [(ROW, [part]) for part in parts] + [(ROW, [*PARTS[:2], part]) for part in parts]
    things += [(ROW, []), (ROW, ()), (ROW, PARTS + PARTS[:1]), (ROW, PARTS * 2), (ROW, ALL), (ROW,), (PARTS, ROW)]
    things += [(ROW, PARTS, None), (ROW, PARTS, PARTS), ROW, PARTS, (), [], {0: ROW, 1: PARTS}, iter(VAT)]
    things += [(ROW, dips) for dips in by_hand.neither_whole_nor_told()] + [(ROW, {ALL}), (ROW, {ALL: 1})]
    things += [(row, [ALL]) for row in by_hand.no_rows_of_five()] + [("vat", VAT), (VAT,), "vat", "rd"]
    return things + by_hand.neither_whole_nor_told() + [by_hand.Pretender(tuple), by_hand.StubbornList(VAT)]


def small_vats():
    """Places, a vat and the marks of its places."""
    pick = by_hand.picker(13)
    for places, row in [*by_hand.small_cases(), *by_hand.mixed_cases(180)]:
        vat, told = by_hand.some_vat(places, row, pick)
        yield places, vat, told


def many_of(told):
    return {mark: told.count(mark) for mark in sorted(set(told))}


class Vats(unittest.TestCase):
    def test_one_to_three_dips(self):
        for dips in (PARTS[:1], PARTS[:2], PARTS, [ALL] * 3, tuple(PARTS)):
            self.assertIs(is_vat(5, (ROW, dips)), True)
        for dips in ([], (), PARTS + [ALL], [ALL] * 4, [ALL] * 300):
            self.assertIs(is_vat(5, (ROW, dips)), False)

    def test_each_dip_at_its_own_time(self):
        widths = [5, 3, 3, 2]
        for deeds, width in enumerate(widths):
            for last in range(-1, 7):
                self.assertIs(is_vat(5, (ROW, [(deeds, ("below", 1, 0, last))])), 0 <= last < width)
        self.assertIs(is_vat(5, (ROW, [(4, ("below", 1, 0, 0))])), False)
        self.assertIs(is_vat(5, ([], [(0, ("below", 10 ** 60, 0, 4))])), True)
        self.assertIs(is_vat(5, ([], [(1, ("below", 1, 0, 4))])), False)

    def test_small_ones(self):
        for places, vat, _ in small_vats():
            self.assertIs(is_vat(places, vat), True, (places, vat))

    def test_what_is_none(self):
        for number, thing in enumerate(no_vats_of_five()):
            with self.subTest(number):
                self.assertIs(is_vat(5, thing), False)
                self.assertRaises(NoVat, marks, 5, thing)
                self.assertRaises(NoVat, marks_below, 5, thing, 0)
                self.assertRaises(NoVat, first_marked, 5, thing, ())
                self.assertRaises(NoVat, are_alike, 5, thing, 0, 0)

    def test_lists_and_tuples_alike(self):
        told = marks(5, VAT)
        for row in by_hand.forms(ROW):
            for kind in (list, tuple):
                parts = kind([kind([deeds, kind(dip)]) for deeds, dip in PARTS])
                for vat in ((row, parts), [row, parts], [row, [list(part) for part in PARTS]], (row, tuple(PARTS))):
                    self.assertIs(is_vat(5, vat), True)
                    self.assertEqual(marks(5, vat), told)
                    self.assertEqual(marks_below(5, vat, 5), told)
                    self.assertIs(are_alike(5, vat, 0, 1), False)
                    self.assertEqual(first_marked(5, vat, [2]), first_marked(5, VAT, (2,)))

    def test_no_places(self):
        for number, places in enumerate(by_hand.no_whole_numbers(1, LONGEST)):
            vat = ([], [(0, ("above", 1, 0, 0))])
            calls = ((is_vat, vat), (is_vat, None), (marks, vat), (marks_below, vat, 0), (first_marked, vat, ()),
                     (are_alike, vat, 0, 0))
            for call, *rest in calls:
                with self.subTest((call.__name__, number)):
                    self.assertRaises(NoPlaces, call, places, *rest)


class Marks(unittest.TestCase):
    def test_a_few_by_sight(self):
        self.assertEqual(marks(5, ([], [ALL])), {(0,): 5})
        self.assertEqual(marks(5, ([], [(0, ("above", 1, 1, 3)), (0, ("below", 9, 3, 4))])),
                         {(): 1, (0,): 2, (0, 1): 1, (1,): 1})
        self.assertEqual(marks(5, ([("over", 2)], [(1, ("above", 1, 0, 2)), (0, ("above", 1, 0, 2))])),
                         {(0,): 2, (0, 1): 1, (1,): 2})
        self.assertEqual(marks(1, ([("turn",)] * 40, [(20, ("above", 1, 0, 0)), (40, ("below", 1, 0, 0))])),
                         {(0, 1): 1})
        self.assertEqual(marks(LONGEST, ([], [(0, ("above", 1, 1, 1))])), {(): LONGEST - 1, (0,): 1})

    def test_as_folded_by_hand(self):
        for places, vat, told in small_vats():
            found = marks(places, vat)
            self.assertEqual(found, many_of(told), (places, vat))
            self.assertEqual(list(found), sorted(set(told)), (places, vat))
            for number in range(places + 1):
                below = marks_below(places, vat, number)
                self.assertEqual(below, many_of(told[:number]), (places, vat, number))
                self.assertEqual(list(below), sorted(set(told[:number])), (places, vat, number))

    def test_all_marks_rising(self):
        dips = [(0, ("above", 1, 4, 7)), (0, ("above", 1, 2, 5)), (0, ("below", 1, 1, 4))]
        for choice in ([0, 1, 2], [2, 0, 1], [1, 2, 0]):
            found = marks(10, ([], [dips[at] for at in choice]))
            self.assertEqual(list(found), sorted(found))
            self.assertEqual(sum(found.values()), 10)
        rising = [(), (0,), (0, 1), (0, 1, 2), (0, 2), (1,), (1, 2), (2,)]
        dips = [(0, ("above", 1, 4, 7)), (1, ("above", 1, 0, 1)), (2, ("above", 2, 0, 0))]
        row = [("over", 2), ("under", 1)]
        self.assertEqual(sum(marks(8, (row, dips)).values()), 8)
        halves = [("over", 4), ("over", 2), ("over", 1)]
        sides = [(0, ("above", 1, 4, 7)), (1, ("above", 2, 2, 3)), (2, ("above", 4, 1, 1))]
        self.assertEqual(marks(8, (halves, sides)), dict.fromkeys(rising, 1))
        self.assertEqual(list(marks(8, (halves, sides))), rising)

    def test_a_dip_behind_none_and_behind_all_deeds(self):
        row = [("over", 4), ("turn",), ("under", 2)]
        for deeds in range(4):
            pile = by_hand.courses(9, row)[deeds]
            for dip in by_hand.all_dips(pile):
                vat = (row, [(deeds, dip)])
                self.assertEqual(marks(9, vat), many_of(by_hand.marks(9, vat)), (deeds, dip))

    def test_kinds_of_what_is_told(self):
        for told in (marks(5, VAT), marks_below(5, VAT, 4), marks_below(5, VAT, 0)):
            self.assertIs(type(told), dict)
            for mark, many in told.items():
                self.assertIs(type(mark), tuple)
                self.assertEqual({type(number) for number in mark} - {int}, set())
                self.assertIs(type(many), int)
        self.assertEqual(marks_below(5, VAT, 0), {})
        self.assertEqual(marks_below(5, VAT, 5), marks(5, VAT))

    def test_no_number(self):
        for number, wrong in enumerate(by_hand.no_whole_numbers(0, 5)):
            with self.subTest(number):
                self.assertRaises(NoNumber, marks_below, 5, VAT, wrong)


class First(unittest.TestCase):
    def test_a_few_by_sight(self):
        vat = ([], [(0, ("above", 1, 1, 3)), (0, ("below", 9, 3, 4))])
        told = {(): 0, (0,): 1, (0, 1): 3, (1,): 4}
        for mark, place in told.items():
            self.assertEqual(first_marked(5, vat, mark), place)
            self.assertEqual(first_marked(5, vat, list(mark)), place)
        self.assertIsNone(first_marked(5, ([], [ALL]), ()))
        self.assertEqual(first_marked(LONGEST, ([], [(0, ("above", 1, 0, LONGEST - 2))]), ()), LONGEST - 1)
        self.assertEqual(first_marked(1, ([], [(0, ("above", 1, 0, 0))] * 3), (0, 1, 2)), 0)

    def test_as_folded_by_hand(self):
        for places, vat, told in small_vats():
            for mark in by_hand.all_marks(len(vat[1])):
                place = told.index(mark) if mark in told else None
                self.assertEqual(first_marked(places, vat, mark), place, (places, vat, mark))

    def test_no_mark(self):
        wrong = [(0, 0), (1, 0), (0, 2, 1), (0, 1, 1), (0, 1, 2, 2), (0, 1, 2, 3), (2, 1), [0, 0], [2, 0], "", "0",
                 "01", b"\x00", {0}, {0: 1}, {}, range(1), 0, 1, ((0,),), ((),), [[]], [(0, 1)], (0, None), (None, 1),
                 iter(()), by_hand.Pretender(tuple)]
        wrong += [(number,) for number in by_hand.no_whole_numbers(0, 2)]
        wrong += [(0, number) for number in by_hand.no_whole_numbers(0, 2)]
        wrong += by_hand.neither_whole_nor_listing()
        for number, mark in enumerate(wrong):
            with self.subTest(number):
                self.assertRaises(NoMark, first_marked, 5, VAT, mark)

    def test_numbers_of_its_dips_only(self):
        for many in (1, 2, 3):
            vat = (ROW, PARTS[:many])
            for mark in by_hand.all_marks(3):
                if max(mark, default=0) < many:
                    first_marked(5, vat, mark)
                else:
                    self.assertRaises(NoMark, first_marked, 5, vat, mark)


class Alike(unittest.TestCase):
    def test_a_few_by_sight(self):
        row = [("over", 2), ("turn",)]
        dips = [(1, ("above", 1, 0, 1)), (2, ("below", 1, 0, 1)), (0, ("above", 7, 2, 3))]
        for one in range(3):
            for other in range(3):
                self.assertIs(are_alike(4, (row, dips), one, other), True)
        self.assertIs(are_alike(5, (row, [(0, ("above", 1, 2, 3)), (0, ("above", 1, 2, 4))]), 0, 1), False)
        self.assertIs(are_alike(5, (row, [(0, ("above", 1, 0, 1)), (0, ("above", 1, 2, 3))]), 0, 1), False)

    def test_depths_beyond_the_piles_are_alike(self):
        row = [("over", 2)]
        dips = [(1, ("above", 2, 0, 2)), (1, ("below", 10 ** 39, 0, 2)), (1, ("above", 1, 0, 2))]
        told = [are_alike(5, (row, dips), one, other) for one, other in ((0, 1), (0, 2), (1, 2), (2, 2))]
        self.assertEqual(told, [True, False, False, True])

    def test_as_folded_by_hand(self):
        found = {True: 0, False: 0}
        for places, vat, told in small_vats():
            for one in range(len(vat[1])):
                for other in range(len(vat[1])):
                    alike = all((one in mark) == (other in mark) for mark in told)
                    self.assertIs(are_alike(places, vat, one, other), alike, (places, vat, one, other))
                    found[alike] += 1
        self.assertGreater(min(found.values()), 100)

    def test_no_number_of_each(self):
        for many in (1, 2, 3):
            for number, wrong in enumerate(by_hand.no_whole_numbers(0, many - 1)):
                with self.subTest((many, number)):
                    self.assertRaises(NoNumber, are_alike, 5, (ROW, PARTS[:many]), wrong, 0)
                    self.assertRaises(NoNumber, are_alike, 5, (ROW, PARTS[:many]), 0, wrong)
                    self.assertRaises(NoNumber, are_alike, 5, (ROW, PARTS[:many]), wrong, wrong)


if __name__ == "__main__":
    unittest.main()
