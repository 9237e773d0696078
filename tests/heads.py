"""What every function of a strip and a row refuses ahead of all else: a class to be mixed into tests."""

from foldvat.errors import NoPlaces, NoRow
from tests import by_hand


class Heads:
    """Its `calls(places, row)` tells the calls, each a tuple of a function and what it is handed."""

    def refuse(self, refusal, calls, number):
        for call in calls:
            with self.subTest((call[0].__name__, number)):
                self.assertRaises(refusal, *call)

    def test_no_places(self):
        for number, places in enumerate(by_hand.no_whole_numbers(1, by_hand.LONGEST)):
            self.refuse(NoPlaces, self.calls(places, []), number)

    def test_no_row(self):
        for number, row in enumerate(by_hand.no_rows_of_five()):
            self.refuse(NoRow, self.calls(5, row), number)
