"""Point 26: a history written in rows and read back, and what is refused of a text."""

import unittest

from foldvat.errors import FoldError, NoHistory, NoPlaces, NoText
from foldvat.strips import strip_of
from foldvat.texts import read, show
from tests import by_hand
from tests import by_hand_strips as hands
from tests.test_strips import no_histories_of_five

LONGEST = by_hand.LONGEST
TEXT = "strip 9\nover 4\ndip above 2 0 3\nturn\nopen\nunder 3\ndip below 1 0 0"
HISTORY = [("over", 4), ("dip", "above", 2, 0, 3), ("turn",), ("open",), ("under", 3), ("dip", "below", 1, 0, 0)]
# Words where a number is due, of which none is written as one is.
NO_NUMBERS = ["", "-1", "+1", "-0", "00", "01", "0012", "1.0", "1e3", "1_000", "0x1", "x", "one", "1,", "\t1", "1\t",
              "\r1", "1\r", "\u0661", "\u00b2", "\uff11", "True", "None", "1\x0b", "1\x00", "(1)"]


def no_texts():
    """Things that are no text of a history, and the number of the row that is told to be wrong."""
    rows = ["", " ", "strip", "strip 9 9", "Strip 9", "STRIP 9", "strips 9", " strip 9", "strip 9 ", "strip  9",
            "strip\t9",
            "strip:9", "9", "turn", "open", "over 1", "under 1", "dip above 1 0 0", "#", "columns", "history", "undo",
            "strip 9;", "strip 9\r", "\ufeffstrip 9", "strip,9", "strip above"]
    rows += ["strip " + word for word in NO_NUMBERS]
    found = [(row, 0) for row in rows] + [(row + "\nturn", 0) for row in rows] + [(row + "\nstrip 9",
                                                                                   0) for row in rows]
    found += [(row + "\nx", 0) for row in rows]
    rows = ["", " ", "turn ", " turn", "turn 1", "turn  ", "Turn", "turned", "open 1", "open ", "opened", "over",
            "over ",
            "over 1 1", " over 1", "over 1 ", "over  1", "overunder 1", "Over 1", "under", "under 2 ", "dip",
            "dip above 1 0",
            "dip above 1 0 0 0", "dip 1 above 0 0", "dip above  1 0 0", "dip Above 1 0 0", "dip beneath 1 0 0",
            "dip over 1 0 0", "dip 1 0 0", "dip  1 0 0", "strip 9", "strip 5", "strip", "strip 0", "fold over 1",
            "columns",
            "layers 0", "spot 0", "place 0 0", "bend 0", "bends", "dyes 0", "many 0", "ahead 0 0", "nth 0 0", "marks 0",
            "history", "undo", "turn;turn", "turn\r", "turn\tturn", "turn\x0bturn", "turn\u2028turn", "over above"]
    rows += [f"{word} {number}" for word in ("over", "under") for number in NO_NUMBERS]
    for number in NO_NUMBERS:
        rows += [f"dip above {number} 0 0", f"dip above 1 {number} 0", f"dip above 1 0 {number}"]
    found += [("strip 9\n" + row, 1) for row in rows] + [("strip 9\nturn\nopen\n" + row + "\nopen", 3) for row in rows]
    found += [("strip 9\n" + row + "\nx\n", 1) for row in rows] + [(TEXT + "\n" + row, 7) for row in rows]
    found += [("", 0), ("\n", 0), ("\n\n", 0), ("strip 9\n", 1), ("strip 9\n\nturn", 1), ("\nstrip 9", 0),
              (TEXT + "\n", 7)]
    things = by_hand.neither_whole_nor_told() + [0, 1, 9, TEXT.encode(), [TEXT], (9, HISTORY), by_hand.Pretender(str)]
    return found + [(thing, None) for thing in things if type(thing) is not str]


class Show(unittest.TestCase):
    def test_a_few_by_sight(self):
        self.assertEqual(show(9, HISTORY), TEXT)
        self.assertEqual(show(1, []), "strip 1")
        self.assertEqual(show(LONGEST, [("over", 10 ** 20)]), "strip 1" + "0" * 30 + "\nover 1" + "0" * 20)
        self.assertEqual(show(2, [("dip", "below", 10 ** 39, 0, 1)]), "strip 2\ndip below 1" + "0" * 39 + " 0 1")

    def test_lists_and_tuples_mixed(self):
        for form in by_hand.forms(HISTORY):
            self.assertEqual(show(9, form), TEXT)

    def test_kinds_of_what_is_told(self):
        self.assertIs(type(show(9, HISTORY)), str)
        told = read(TEXT)
        self.assertIs(type(told), tuple)
        self.assertEqual([type(part) for part in told], [int, list])
        self.assertEqual({type(deed) for deed in told[1]}, {tuple})
        self.assertEqual([type(part) for part in told[1][1]], [str, str, int, int, int])

    def test_no_places_and_no_history(self):
        for number, places in enumerate(by_hand.no_whole_numbers(1, LONGEST)):
            with self.subTest(number):
                self.assertRaises(NoPlaces, show, places, [])
                self.assertRaises(NoPlaces, show, places, None)
        for number, history in enumerate(no_histories_of_five()):
            with self.subTest(number):
                self.assertRaises(NoHistory, show, 5, history)


class Read(unittest.TestCase):
    def test_a_few_by_sight(self):
        self.assertEqual(read(TEXT), (9, HISTORY))
        self.assertEqual(read("strip 1"), (1, []))
        self.assertEqual(read("strip 1" + "0" * 30), (LONGEST, []))

    def test_it_is_the_history_that_was_written(self):
        for hand in hands.works():
            self.assertEqual(read(show(hand.places, hand.history)), (hand.places, hand.history))
        for seed in range(12):
            history = hands.far_history(LONGEST - seed, 300, seed)
            text = show(LONGEST - seed, history)
            self.assertEqual(read(text), (LONGEST - seed, history))
            self.assertEqual(read(text), (LONGEST - seed, strip_of(LONGEST - seed, history).history()))

    def test_no_text(self):
        for number, (text, line) in enumerate(no_texts()):
            with self.subTest(number):
                with self.assertRaises(NoText) as caught:
                    read(text)
                self.assertEqual(caught.exception.line, line)

    def test_the_text_of_a_history_alone_is_read(self):
        # Whatever is read is written just so: no two unlike texts are read alike.
        pick = by_hand.picker(5)
        texts = [show(hand.places, hand.history) for hand in hands.works()][:30] + [TEXT]
        signs = "\n 0123456789abdeilnopruvtw-;"
        read_too = 0
        for text in texts:
            for _ in range(150):
                at = pick(len(text) + 1)
                cut = by_hand.chosen((0, 0, 1, 1, 2), pick)
                other = text[:at] + by_hand.chosen(("", signs[pick(len(signs))]), pick) + text[at + cut:]
                try:
                    told = read(other)
                except FoldError:
                    continue
                self.assertEqual(show(*told), other)
                self.assertEqual(told == read(text), other == text)
                read_too += other != text
        self.assertGreater(read_too, 100)

    def test_no_places(self):
        for word in ("0", "1" + "0" * 29 + "1", "1" + "0" * 31, "9" * 3990):
            for rest in ("", "\nturn", "\nopen", "\nover 0"):
                self.assertRaises(NoPlaces, read, f"strip {word}{rest}")

    def test_no_history(self):
        wrong = ["open", "over 0", "over 9", "under 9", "under 1" + "0" * 40, "over " + "7" * 3000, "dip above 0 0 0",
                 "dip above 1 1 0", "dip below 1 0 9", "dip below 0 0 0", "turn\nopen\nopen", "over 5\nover 5"]
        wrong += ["\n".join(["turn"] * 41), "\n".join(["dip above 1 0 0"] * 41)]
        for rows in wrong:
            with self.subTest(rows[:40]):
                self.assertRaises(NoHistory, read, f"strip 9\n{rows}")
                self.assertRaises(NoHistory, read, f"strip 9\nturn\nopen\n{rows}\nturn")
                self.assertRaises(NoPlaces, read, f"strip 0\n{rows}")
                self.assertRaises(NoText, read, f"strip 9\n{rows}\n")
                self.assertRaises(NoText, read, f"strip 0\n{rows}\nturn 1")

    def test_the_form_is_asked_ahead_of_what_numbers_are_worth(self):
        for text, line in (("strip 0\nover 0\nx", 2), ("strip 9\nover 99\nover 01", 2), ("strip 0\n", 1)):
            with self.assertRaises(NoText) as caught:
                read(text)
            self.assertEqual(caught.exception.line, line)

    def test_numbers_of_many_figures(self):
        for many in (59, 60, 61, 119, 120, 121, 640, 641, 3900, 4300, 4301, 9000):
            for figures in ("1" + "0" * (many - 1), "9" * many, ("120" * many)[:many]):
                text = f"strip 7\ndip above {figures} 0 6"
                places, history = read(text)
                self.assertEqual((places, len(history)), (7, 1))
                depth = 0
                for figure in figures:
                    depth = depth * 10 + "0123456789".index(figure)
                self.assertEqual(history[0], ("dip", "above", depth, 0, 6))
                self.assertEqual(show(places, history), text)
                self.assertRaises(NoHistory, read, f"strip 7\nover {figures}")
                self.assertRaises(NoPlaces, read, f"strip {figures}")
                self.assertRaises(NoText, read, f"strip 7\ndip above 0{figures} 0 6")

    def test_the_figures_of_all_sizes(self):
        for number in [*range(1, 120), *[10 ** at + more for at in range(2, 150) for more in (-1, 0, 1)]]:
            text = f"strip 1\ndip above {number} 0 0"
            self.assertEqual(show(1, [("dip", "above", number, 0, 0)]), text)
            self.assertEqual(read(text), (1, [("dip", "above", number, 0, 0)]))


if __name__ == "__main__":
    unittest.main()
