"""Point 2: what is handed in stays as it was, what is told is the asker's own, lists and tuples are alike."""

import copy
import unittest

from foldvat import rows, spots
from tests import by_hand

PLACES = 11
ROW = [("over", 4), ("turn",), ("under", 2), ("over", 3)]
CALLS = (
    (rows.is_row, ()),
    (rows.columns, ()),
    (rows.layers, (1,)),
    (rows.stretches, ()),
    (rows.by_layers, ()),
    (spots.spot, (7,)),
    (spots.way_of, (7,)),
    (spots.place_at, (1, 1)),
    (spots.run_now, (1, 3)),
    (spots.line_to, (2, 5)),
)


class Given(unittest.TestCase):
    def test_lists_and_tuples_mixed(self):
        for call, rest in CALLS:
            told = call(PLACES, ROW, *rest)
            for form in by_hand.forms(ROW):
                self.assertEqual(call(PLACES, form, *rest), told, (call.__name__, form))

    def test_what_is_handed_in_stays(self):
        for call, rest in CALLS:
            for form in by_hand.forms(ROW):
                before = copy.deepcopy(form)
                call(PLACES, form, *rest)
                self.assertEqual(form, before, call.__name__)
                self.assertEqual([type(deed) for deed in form], [type(deed) for deed in before], call.__name__)

    def test_what_is_refused_stays(self):
        row = [["over", 4], ["turn"], ["over", 99]]
        before = copy.deepcopy(row)
        for call, rest in CALLS[1:]:
            self.assertRaises(ValueError, call, PLACES, row, *rest)
        self.assertIs(rows.is_row(PLACES, row), False)
        self.assertEqual(row, before)

    def test_the_same_asked_again(self):
        for call, rest in CALLS:
            self.assertEqual(call(PLACES, ROW, *rest), call(PLACES, ROW, *rest), call.__name__)

    def test_a_told_list_is_the_askers_own(self):
        for call, rest in ((rows.stretches, ()), (rows.by_layers, ()), (spots.way_of, (7,))):
            for row in ([], ROW):
                first = call(PLACES, row, *rest)
                kept = list(first)
                first.append("more")
                first[0] = None
                second = call(PLACES, row, *rest)
                self.assertEqual(second, kept, call.__name__)
                second.clear()
                self.assertEqual(call(PLACES, row, *rest), kept, call.__name__)

    def test_a_row_changed_later_changes_nothing_told(self):
        row = [list(deed) for deed in ROW]
        told = [call(PLACES, row, *rest) for call, rest in CALLS]
        kept = copy.deepcopy(told)
        row[0][1] = 1
        row.pop()
        self.assertEqual(told, kept)
        self.assertEqual([call(PLACES, ROW, *rest) for call, rest in CALLS], kept)


if __name__ == "__main__":
    unittest.main()
