"""Point 3: of several wrong things at once, the one that is due first is told."""

import unittest

from foldvat import errors, rows, spots

PLACES = (5, 0, errors.NoPlaces)
ROW = ([("over", 2)], [("over", 5)], errors.NoRow)
PLACE = (4, 5, errors.NoPlace)

# Of each function its arguments in their order: one that is right, one that is wrong, the refusal.
CALLS = (
    (rows.is_row, (PLACES, ([], None, None))),
    (rows.columns, (PLACES, ROW)),
    (rows.layers, (PLACES, ROW, (2, 3, errors.NoColumn))),
    (rows.stretches, (PLACES, ROW)),
    (rows.by_layers, (PLACES, ROW)),
    (spots.spot, (PLACES, ROW, PLACE)),
    (spots.way_of, (PLACES, ROW, PLACE)),
    (spots.place_at, (PLACES, ROW, (2, 3, errors.NoColumn), (1, 2, errors.NoDepth))),
    (spots.run_now, (PLACES, ROW, (1, 2, errors.NoNumber), (2, 3, errors.NoColumn))),
    (spots.line_to, (PLACES, ROW, PLACE, (0, -1, errors.NoPlace))),
)


class Order(unittest.TestCase):
    def test_each_choice_of_wrong_arguments(self):
        for call, arguments in CALLS:
            for choice in range(2 ** len(arguments)):
                wrong = [choice >> at & 1 for at in range(len(arguments))]
                handed = [argument[wrong[at]] for at, argument in enumerate(arguments)]
                due = [argument[2] for at, argument in enumerate(arguments) if wrong[at] and argument[2] is not None]
                with self.subTest((call.__name__, wrong)):
                    if not due:
                        call(*handed)
                        continue
                    with self.assertRaises(errors.FoldError) as caught:
                        call(*handed)
                    self.assertIs(type(caught.exception), due[0])

    def test_of_other_kinds_too(self):
        for thing in (None, True, "1", 1.0, [], [[]]):
            with self.subTest(thing):
                self.assertRaises(errors.NoPlaces, spots.place_at, thing, thing, thing, thing)
                self.assertRaises(errors.NoRow, spots.place_at, 5, [thing], thing, thing)
                self.assertRaises(errors.NoColumn, spots.place_at, 5, [], thing, thing)
                self.assertRaises(errors.NoDepth, spots.place_at, 5, [], 0, thing)
                self.assertRaises(errors.NoNumber, spots.run_now, 5, [], thing, thing)
                self.assertRaises(errors.NoColumn, spots.run_now, 5, [], 0, thing)
                self.assertRaises(errors.NoPlaces, rows.is_row, thing, thing)

    def test_the_column_is_asked_of_its_own_time(self):
        self.assertRaises(errors.NoNumber, spots.run_now, 5, [("over", 2)], 2, 4)
        self.assertEqual(spots.run_now(5, [("over", 2)], 0, 4), (0, 0, 0, True))
        self.assertRaises(errors.NoColumn, spots.run_now, 5, [("over", 2)], 1, 4)


if __name__ == "__main__":
    unittest.main()
