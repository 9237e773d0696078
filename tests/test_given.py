"""Point 2: what is handed in stays as it was, what is told is the asker's own, lists and tuples are alike."""

import copy
import unittest

from foldvat import bends, counts, dips, rows, spots, vats
from tests import by_hand

PLACES = 11
ROW = [("over", 4), ("turn",), ("under", 2), ("over", 3)]
CALLS = (
    (rows.is_row, ()),
    (rows.columns, ()),
    (rows.layers, (1,)),
    (rows.stretches, ()),
    (rows.by_layers, ()),
    (spots.spot, (7,)),
    (spots.way_of, (7,)),
    (spots.place_at, (1, 1)),
    (spots.run_now, (1, 3)),
    (spots.line_to, (2, 5)),
    (bends.bend, (7,)),
    (bends.passing, (2,)),
    (bends.bends, ()),
    (bends.bends_below, (8,)),
    (bends.nth_bend, ("dale", 1)),
    (dips.is_dip, (["above", 2, 0, 2],)),
    (dips.is_dip, (["above", 2, 0, 3],)),
    (dips.takes, (["below", 2, 0, 2], 4)),
    (dips.taken, (["below", 2, 1, 2],)),
    (counts.taken_below, (["above", 3, 0, 1], 9)),
    (counts.nth_taken, (["above", 3, 0, 1], 2)),
    (counts.looks, (["above", 3, 0, 1], 2)),
)
PARTS = [[0, ["above", 1, 2, 8]], [2, ["below", 1, 0, 3]], [4, ["above", 2, 0, 1]]]
VAT_CALLS = (
    (vats.is_vat, ()),
    (vats.marks, ()),
    (vats.marks_below, (9,)),
    (vats.first_marked, ([0, 2],)),
    (vats.are_alike, (0, 2)),
)


def frozen(thing):
    """A thing with each list in it as a tuple."""
    return tuple(frozen(one) for one in thing) if isinstance(thing, (list, tuple)) else thing


def kinds_within(thing):
    """The kinds of a thing and of all that is within it."""
    return [type(thing), [kinds_within(one) for one in thing]] if isinstance(thing, (list, tuple)) else type(thing)


class Given(unittest.TestCase):
    def test_lists_and_tuples_mixed(self):
        for call, rest in CALLS:
            told = call(PLACES, ROW, *rest)
            for form in by_hand.forms(ROW):
                self.assertEqual(call(PLACES, form, *rest), told, (call.__name__, form))
                self.assertEqual(call(PLACES, form, *frozen(rest)), told, (call.__name__, form))

    def test_vats_of_lists_and_tuples_mixed(self):
        for call, rest in VAT_CALLS:
            told = call(PLACES, (ROW, PARTS), *rest)
            for form in by_hand.forms(ROW):
                for parts in (PARTS, frozen(PARTS), [frozen(PARTS[0]), *PARTS[1:]], (PARTS[0], *frozen(PARTS[1:]))):
                    for vat in ((form, parts), [form, parts]):
                        self.assertEqual(call(PLACES, vat, *rest), told, (call.__name__, vat))
                        self.assertEqual(call(PLACES, vat, *frozen(rest)), told, (call.__name__, vat))

    def test_what_is_handed_in_stays(self):
        for call, rest in CALLS:
            for form in by_hand.forms(ROW):
                self.stays(call, (PLACES, form, *rest))
        for call, rest in VAT_CALLS:
            for form in by_hand.forms(ROW):
                for vat in ([form, PARTS], (form, frozen(PARTS)), [list(form), [list(part) for part in PARTS]]):
                    self.stays(call, (PLACES, vat, *rest))

    def stays(self, call, handed):
        before = copy.deepcopy(handed)
        call(*handed)
        self.assertEqual(handed, before, call.__name__)
        self.assertEqual(kinds_within(handed), kinds_within(before), call.__name__)

    def test_what_is_refused_stays(self):
        row = [["over", 4], ["turn"], ["over", 99]]
        before = copy.deepcopy(row)
        for call, rest in CALLS[1:]:
            self.assertRaises(ValueError, call, PLACES, row, *rest)
        self.assertIs(rows.is_row(PLACES, row), False)
        self.assertEqual(row, before)
        vat = [[list(deed) for deed in ROW], [*copy.deepcopy(PARTS[:2]), [4, ["above", 2, 0, 99]]]]
        before = copy.deepcopy(vat)
        for call, rest in VAT_CALLS[1:]:
            self.assertRaises(ValueError, call, PLACES, vat, *rest)
        self.assertIs(vats.is_vat(PLACES, vat), False)
        self.assertEqual(vat, before)

    def test_the_same_asked_again(self):
        for call, rest in CALLS:
            self.assertEqual(call(PLACES, ROW, *rest), call(PLACES, ROW, *rest), call.__name__)
        for call, rest in VAT_CALLS:
            self.assertEqual(call(PLACES, (ROW, PARTS), *rest), call(PLACES, (ROW, PARTS), *rest), call.__name__)

    def test_a_told_list_is_the_askers_own(self):
        for call, rest in ((rows.stretches, ()), (rows.by_layers, ()), (spots.way_of, (7,))):
            for row in ([], ROW):
                first = call(PLACES, row, *rest)
                kept = list(first)
                first.append("more")
                first[0] = None
                second = call(PLACES, row, *rest)
                self.assertEqual(second, kept, call.__name__)
                second.clear()
                self.assertEqual(call(PLACES, row, *rest), kept, call.__name__)

    def test_a_told_dict_is_the_askers_own(self):
        for call, rest in VAT_CALLS[1:3]:
            first = call(PLACES, (ROW, PARTS), *rest)
            kept = dict(first)
            first[(0, 1, 2)] = 7
            first["more"] = None
            del first[list(kept)[0]]
            second = call(PLACES, (ROW, PARTS), *rest)
            self.assertEqual(second, kept, call.__name__)
            self.assertEqual(list(second), list(kept), call.__name__)
            second.clear()
            self.assertEqual(call(PLACES, (ROW, PARTS), *rest), kept, call.__name__)

    def test_a_row_changed_in_place_is_asked_anew(self):
        row = [list(deed) for deed in ROW]
        dip = ["above", 1, 0, 1]
        part = [4, dip]
        vat = [row, [part]]
        for _ in range(2):
            told = (bends.bends(PLACES, row), dips.taken(PLACES, row, dip), counts.looks(PLACES, row, dip, 0))
            self.assertEqual(told[1:], (2, ".#........#"))
            marked = vats.marks(PLACES, vat)
            self.assertEqual(marked, {(): 9, (0,): 2})
            row[0][0] = "under"
            self.assertNotEqual(bends.bends(PLACES, row), told[0])
            row[0][0] = "over"
            dip[1], dip[3] = 10, 2
            self.assertEqual(dips.taken(PLACES, row, dip), 11)
            self.assertEqual(counts.looks(PLACES, row, dip, 0), "#" * 11)
            self.assertEqual(vats.marks(PLACES, vat), {(0,): 11})
            dip[1], dip[3] = 1, 1
            part[0] = 0
            self.assertEqual(vats.marks(PLACES, vat), {(): 9, (0,): 2})
            self.assertEqual(vats.first_marked(PLACES, vat, [0]), 0)
            part[0] = 4
            row.pop()
            self.assertIs(vats.is_vat(PLACES, vat), False)
            row.append(list(ROW[-1]))
            self.assertEqual(marked, {(): 9, (0,): 2})

    def test_a_row_changed_later_changes_nothing_told(self):
        row = [list(deed) for deed in ROW]
        told = [call(PLACES, row, *rest) for call, rest in CALLS]
        kept = copy.deepcopy(told)
        row[0][1] = 1
        row.pop()
        self.assertEqual(told, kept)
        self.assertEqual([call(PLACES, ROW, *rest) for call, rest in CALLS], kept)


if __name__ == "__main__":
    unittest.main()
