"""Point 2 for patterns, Strips, texts and the desk: what is handed in stays, what is told is the asker's own."""

import copy
import unittest

from foldvat.desk import Desk
from foldvat.patterns import beginnings, row_for, shut, shut_holds
from foldvat.strips import Strip, strip_of
from foldvat.texts import read, show
from tests import by_hand
from tests import by_hand_strips as hands
from tests.test_given import kinds_within
from tests.test_strips import all_told

HISTORY = [["over", 4], ["dip", "above", 2, 0, 3], ["turn"], ["dip", "below", 1, 2, 4], ["open"], ["under", 3],
           ["dip", "above", 1, 0, 2]]
PLACES = 9


def spoilt(thing):
    """Changes a told list or dict, and what is in it, in all ways."""
    if isinstance(thing, list):
        for one in thing:
            spoilt(one)
        thing.append("more")
        thing.reverse()
        thing[0] = None
        thing.clear()
    elif isinstance(thing, tuple):
        for one in thing:
            spoilt(one)
    elif isinstance(thing, dict):
        thing["more"] = 7
        del thing[list(thing)[0]]
        thing.clear()


def strip_calls():
    """What a Strip that was told HISTORY is asked."""
    return [("places",), ("row",), ("history",), ("dips",), ("spot", 3), ("dyes", 3), ("paper", 3), ("taken", 1),
            ("taken_below", 1, 5), ("nth_taken", 1, 1), ("marks", (0, 1)), ("marks", [2, 0]), ("marks", (0,))]


def asked(strip):
    return [getattr(strip, call)(*rest) for call, *rest in strip_calls()]


class Told(unittest.TestCase):
    def test_what_a_strip_tells_is_the_askers_own(self):
        strip = strip_of(PLACES, HISTORY)
        kept = copy.deepcopy(asked(strip))
        for _ in range(2):
            for told in asked(strip):
                spoilt(told)
            self.assertEqual(asked(strip), kept)
        strip.turn()
        strip.open_up()
        self.assertEqual(strip.history(), [*kept[2], ("turn",), ("open",)])
        self.assertEqual(asked(strip)[3:], kept[3:])

    def test_lists_within_lists_too(self):
        strip = strip_of(PLACES, HISTORY)
        dips = strip.dips()
        kept = copy.deepcopy(dips)
        dips[0][0].append(("turn",))
        dips[1][0].clear()
        self.assertEqual(strip.dips(), kept)
        self.assertEqual(strip.marks((0, 1)), strip_of(PLACES, HISTORY).marks((0, 1)))
        # No two of the told lists are one.
        rows = [row for row, _ in strip.dips()] + [row for row, _ in strip.dips()] + [strip.row(), strip.row()]
        self.assertEqual(len({id(row) for row in rows}), len(rows))

    def test_what_is_told_stays_when_more_is_done(self):
        strip = strip_of(PLACES, HISTORY)
        told = asked(strip)
        kept = copy.deepcopy(told)
        strip.open_up()
        strip.open_up()
        strip.turn()
        strip.dip("above", 9, 0, 8)
        self.assertEqual(told, kept)
        self.assertEqual(told[2], [tuple(deed) for deed in HISTORY])

    def test_patterns(self):
        for call, pattern in ((beginnings, "hhd"), (row_for, "hdh-h"), (row_for, "--"), (shut, "-hh-"),
                              (shut, "h-hh-")):
            told = call(pattern)
            kept = copy.deepcopy(told)
            spoilt(told)
            self.assertEqual(call(pattern), kept)
            spoilt(call(pattern))
            self.assertEqual(call(pattern), kept)

    def test_texts(self):
        text = show(PLACES, HISTORY)
        told = read(text)
        kept = copy.deepcopy(told)
        spoilt(told)
        self.assertEqual(read(text), kept)
        self.assertEqual(show(*kept), text)

    def test_the_same_asked_again(self):
        strip = strip_of(PLACES, HISTORY)
        self.assertEqual(asked(strip), asked(strip))
        desk = Desk()
        for row in show(PLACES, HISTORY).split("\n"):
            desk.say(row)
        for row in ("columns", "history", "dyes 3", "marks 0 1", "marks 2", "bends", "nth 1 1"):
            self.assertEqual(desk.say(row), desk.say(row))


class Given(unittest.TestCase):
    def test_a_history_changed_later_changes_nothing(self):
        for form in by_hand.forms(HISTORY):
            handed = copy.deepcopy(form)
            strip = strip_of(PLACES, handed)
            kept = copy.deepcopy((all_told(strip), asked(strip)))
            self.assertEqual(handed, form)
            self.assertEqual(kinds_within(handed), kinds_within(form))
            for deed in handed:
                if isinstance(deed, list):
                    deed[:] = ["turn"]
            if isinstance(handed, list):
                handed.clear()
            self.assertEqual((all_told(strip), asked(strip)), kept)
            self.assertEqual(strip.history(), [tuple(deed) for deed in HISTORY])

    def test_a_told_history_handed_in(self):
        strip = strip_of(PLACES, HISTORY)
        told = strip.history()
        other = strip_of(PLACES, told)
        told.clear()
        self.assertEqual(all_told(other), all_told(strip))
        other.turn()
        self.assertEqual(len(strip.history()) + 1, len(other.history()))

    def test_numbers_of_dips_stay(self):
        strip = strip_of(PLACES, HISTORY)
        numbers = [2, 0]
        found = strip.marks(numbers)
        self.assertEqual(numbers, [2, 0])
        numbers.clear()
        self.assertEqual(strip.marks((2, 0)), found)

    def test_what_is_refused_stays_and_changes_nothing(self):
        strip = strip_of(PLACES, HISTORY)
        kept = copy.deepcopy((all_told(strip), asked(strip)))
        for wrong in ([["turn"], ["over", 99]], [["turn"], ["open"], ["open"]], [["dip", "above", 1, 0, 99]]):
            before = copy.deepcopy(wrong)
            self.assertRaises(ValueError, strip_of, PLACES, wrong)
            self.assertRaises(ValueError, show, PLACES, wrong)
            self.assertEqual(wrong, before)
        for call, *rest in ((strip.fold, "over", 9), (strip.fold, "up", 1), (strip.dip, "above", 1, 0, 9),
                            (strip.spot, 9),
                            (strip.dyes, -1), (strip.paper, None), (strip.taken, 3), (strip.marks, [0, 0]),
                            (strip.marks, [0, 1, 2, 0]), (strip.taken_below, 0, 10), (strip.nth_taken, 0, -1)):
            before = copy.deepcopy(rest)
            self.assertRaises(ValueError, call, *rest)
            self.assertEqual(rest, before)
        self.assertEqual((all_told(strip), asked(strip)), kept)

    def test_papers_stay(self):
        for pattern in ("-hh-", "h-hh-", "-hh-h-dd-"):
            for form in by_hand.forms(shut(pattern)):
                handed = copy.deepcopy(form)
                self.assertIs(shut_holds(pattern, handed), True)
                self.assertEqual(handed, form)
                self.assertEqual(kinds_within(handed), kinds_within(form))
                wrong = [*handed, [0]]
                self.assertIs(shut_holds(pattern, wrong), False)
                self.assertEqual(wrong, [*handed, [0]])

    def test_a_paper_changed_in_place_is_asked_anew(self):
        paper = [list(stretch) for stretch in shut("h-hh-")]
        for _ in range(2):
            self.assertIs(shut_holds("h-hh-", paper), True)
            paper[0][0] = 1
            self.assertIs(shut_holds("h-hh-", paper), False)
            paper[0][0] = 0
            self.assertIs(shut_holds("h-hh-", paper[:1]), False)

    def test_one_strip_changes_no_other_one(self):
        strips = [strip_of(PLACES, HISTORY), strip_of(PLACES, HISTORY), Strip(PLACES)]
        kept = [all_told(strip) for strip in strips]
        for at, strip in enumerate(strips):
            strip.turn()
            strip.dip("above", 1, 0, 0)
            for other, told in list(zip(strips, kept))[at + 1:]:
                self.assertEqual(all_told(other), told)
        self.assertEqual([len(strip) for strip in strips], [4, 4, 1])

    def test_what_the_program_tells_may_be_handed_in(self):
        for hand in list(hands.works())[::5]:
            strip = strip_of(hand.places, hand.history)
            text = show(strip.places(), strip.history())
            places, history = read(text)
            again = strip_of(places, history)
            self.assertEqual(all_told(again), all_told(strip))
            self.assertIs(shut_holds("-hh-", shut("-hh-")), True)


if __name__ == "__main__":
    unittest.main()
