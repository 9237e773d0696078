"""Point 3: of several wrong things at once, the one that is due first is told."""

import unittest

from foldvat import bends, counts, dips, errors, patterns, rows, spots, strips, texts, vats


def shown(places, row, dip, place, many):
    """How the strip looks, all told by its place."""
    return counts.looks(places, row, dip, place, many=many)


def worked():
    """A Strip of five places that is folded and dipped twice."""
    return strips.strip_of(5, [("over", 2), ("dip", "above", 1, 0, 2), ("dip", "below", 1, 0, 2)])


def fold(way, line):
    """Folds a Strip on which not yet forty deeds stand."""
    return worked().fold(way, line)


def full_fold(way, line):
    """Folds a Strip on which forty deeds stand."""
    return strips.strip_of(60, [("over", 1)] * 40).fold(way, line)


def full_dip(depth):
    """Dips a Strip on which forty dips were done."""
    return strips.strip_of(5, [("dip", "above", 1, 0, 2)] * 40).dip("above", depth, 0, 4)


PLACES = (5, 0, errors.NoPlaces)
ROW = ([("over", 2)], [("over", 5)], errors.NoRow)
PLACE = (4, 5, errors.NoPlace)
NUMBER = (5, 6, errors.NoNumber)
NTH = (0, -1, errors.NoNumber)
DIP = (("above", 1, 0, 2), ("above", 1, 0, 3), errors.NoDip)
DIPS = [(0, ("above", 1, 0, 4)), (1, ("below", 1, 0, 2))]
VAT = (([("over", 2)], DIPS), ([("over", 5)], DIPS), errors.NoVat)

DIP_NUMBER = (1, 2, errors.NoNumber)
HISTORY = ([("over", 2)], [("over", 5)], errors.NoHistory)
PATTERN = ("h-d", "h+d", errors.NoPattern)

# Of each function its arguments in their order: one that is right, one that is wrong, the refusal.
CALLS = (
    (rows.is_row, (PLACES, ([], None, None))),
    (rows.columns, (PLACES, ROW)),
    (rows.layers, (PLACES, ROW, (2, 3, errors.NoColumn))),
    (rows.stretches, (PLACES, ROW)),
    (rows.by_layers, (PLACES, ROW)),
    (spots.spot, (PLACES, ROW, PLACE)),
    (spots.way_of, (PLACES, ROW, PLACE)),
    (spots.place_at, (PLACES, ROW, (2, 3, errors.NoColumn), (1, 2, errors.NoDepth))),
    (spots.run_now, (PLACES, ROW, (1, 2, errors.NoNumber), (2, 3, errors.NoColumn))),
    (spots.line_to, (PLACES, ROW, PLACE, (0, -1, errors.NoPlace))),
    (bends.bend, (PLACES, ROW, (3, 4, errors.NoPlace))),
    (bends.passing, (PLACES, ROW, (2, 3, errors.NoLine))),
    (bends.bends, (PLACES, ROW)),
    (bends.bends_below, (PLACES, ROW, NUMBER)),
    (bends.nth_bend, (PLACES, ROW, ("hill", "flat", errors.NoKind), NTH)),
    (dips.is_dip, (PLACES, ROW, ((), None, None))),
    (dips.takes, (PLACES, ROW, DIP, PLACE)),
    (dips.taken, (PLACES, ROW, DIP)),
    (counts.taken_below, (PLACES, ROW, DIP, NUMBER)),
    (counts.nth_taken, (PLACES, ROW, DIP, NTH)),
    (shown, (PLACES, ROW, DIP, PLACE, (2000, 2001, errors.NoNumber))),
    (vats.is_vat, (PLACES, ((), None, None))),
    (vats.marks, (PLACES, VAT)),
    (vats.marks_below, (PLACES, VAT, NUMBER)),
    (vats.first_marked, (PLACES, VAT, ((0, 1), (1, 0), errors.NoMark))),
    (vats.are_alike, (PLACES, VAT, (1, 2, errors.NoNumber), NTH)),
    (patterns.beginnings, (PATTERN,)),
    (patterns.row_for, (PATTERN,)),
    (patterns.shut, (PATTERN,)),
    (patterns.shut_holds, (PATTERN, ([], None, None))),
    (strips.Strip, (PLACES,)),
    (strips.strip_of, (PLACES, HISTORY)),
    (fold, (("over", "up", errors.NoWay), (2, 3, errors.NoLine))),
    (worked().spot, (PLACE,)),
    (worked().dyes, (PLACE,)),
    (worked().paper, (PLACE,)),
    (worked().taken, (DIP_NUMBER,)),
    (worked().taken_below, (DIP_NUMBER, NUMBER)),
    (worked().nth_taken, (DIP_NUMBER, NTH)),
    (worked().marks, (((1, 0), (1, 2), errors.NoVat),)),
    (texts.show, (PLACES, HISTORY)),
)


class Order(unittest.TestCase):
    def test_each_choice_of_wrong_arguments(self):
        for call, arguments in CALLS:
            for choice in range(2 ** len(arguments)):
                wrong = [choice >> at & 1 for at in range(len(arguments))]
                handed = [argument[wrong[at]] for at, argument in enumerate(arguments)]
                due = [argument[2] for at, argument in enumerate(arguments) if wrong[at] and argument[2] is not None]
                with self.subTest((call.__name__, wrong)):
                    if not due:
                        call(*handed)
                        continue
                    with self.assertRaises(errors.FoldError) as caught:
                        call(*handed)
                    self.assertIs(type(caught.exception), due[0])

    def test_of_other_kinds_too(self):
        for thing in (None, True, "1", 1.0, [], [[]]):
            with self.subTest(thing):
                self.assertRaises(errors.NoPlaces, spots.place_at, thing, thing, thing, thing)
                self.assertRaises(errors.NoRow, spots.place_at, 5, [thing], thing, thing)
                self.assertRaises(errors.NoColumn, spots.place_at, 5, [], thing, thing)
                self.assertRaises(errors.NoDepth, spots.place_at, 5, [], 0, thing)
                self.assertRaises(errors.NoNumber, spots.run_now, 5, [], thing, thing)
                self.assertRaises(errors.NoColumn, spots.run_now, 5, [], 0, thing)
                self.assertRaises(errors.NoPlaces, rows.is_row, thing, thing)
                self.assertRaises(errors.NoPlaces, bends.nth_bend, thing, thing, thing, thing)
                self.assertRaises(errors.NoRow, bends.nth_bend, 5, [thing], thing, thing)
                self.assertRaises(errors.NoKind, bends.nth_bend, 5, [], thing, thing)
                self.assertRaises(errors.NoNumber, bends.nth_bend, 5, [], "hill", thing)
                self.assertRaises(errors.NoPlaces, shown, thing, thing, thing, thing, thing)
                self.assertRaises(errors.NoRow, shown, 5, [thing], thing, thing, thing)
                self.assertRaises(errors.NoDip, shown, 5, [], thing, thing, thing)
                self.assertRaises(errors.NoPlace, shown, 5, [], DIP[0], thing, thing)
                self.assertRaises(errors.NoNumber, shown, 5, [], DIP[0], 0, thing)
                self.assertRaises(errors.NoPlaces, vats.are_alike, thing, thing, thing, thing)
                self.assertRaises(errors.NoVat, vats.are_alike, 5, thing, thing, thing)
                self.assertRaises(errors.NoNumber, vats.are_alike, 5, VAT[0], thing, thing)

    def test_full_behind_all_else(self):
        for way, line, due in (("up", 20, errors.NoWay), ("up", 1, errors.NoWay), ("over", 20, errors.NoLine),
                               ("over", 19, errors.Full)):
            with self.assertRaises(errors.FoldError) as caught:
                full_fold(way, line)
            self.assertIs(type(caught.exception), due)
        self.assertRaises(errors.NoDip, full_dip, 0)
        self.assertRaises(errors.Full, full_dip, 1)

    def test_text_ahead_of_places_ahead_of_history(self):
        for form in (0, 1):
            for places in (0, 1):
                for history in (0, 1):
                    text = "strip " + ("5", "0")[places] + "\n" + ("over 2", "over 5")[history] + ("", "\n")[form]
                    due = [errors.NoText] * form + [errors.NoPlaces] * places + [errors.NoHistory] * history
                    if not due:
                        self.assertEqual(texts.read(text), (5, [("over", 2)]))
                    else:
                        self.assertRaises(due[0], texts.read, text)

    def test_no_pattern_ahead_of_too_many(self):
        for call in (patterns.beginnings, patterns.row_for, patterns.shut):
            self.assertRaises(errors.NoPattern, call, "h" * 300)
            self.assertRaises(errors.NoPattern, call, "h" * 41 + "x")
            self.assertRaises(errors.TooMany, call, "h" * 41)
        self.assertRaises(errors.NoPattern, patterns.shut_holds, "h" * 300, None)
        self.assertRaises(errors.TooMany, patterns.shut_holds, "h" * 41, None)

    def test_the_column_is_asked_of_its_own_time(self):
        self.assertRaises(errors.NoNumber, spots.run_now, 5, [("over", 2)], 2, 4)
        self.assertEqual(spots.run_now(5, [("over", 2)], 0, 4), (0, 0, 0, True))
        self.assertRaises(errors.NoColumn, spots.run_now, 5, [("over", 2)], 1, 4)


if __name__ == "__main__":
    unittest.main()
