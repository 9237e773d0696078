"""Point 27: the desk, each row that it is told, its answers, the order of its refusals, undo."""

import unittest

from foldvat import errors
from foldvat.desk import Desk
from foldvat.rows import columns, layers
from foldvat.spots import place_at
from foldvat.strips import strip_of
from foldvat.texts import read, show
from tests import by_hand
from tests import by_hand_strips as hands
from tests.test_texts import NO_NUMBERS

LONGEST = by_hand.LONGEST
QUESTIONS = ("columns", "layers 0", "spot 1", "place 0 0", "bend 0", "bends", "dyes 1", "many 0", "ahead 0 1",
             "nth 0 0", "marks 0", "history")


def told_all(rows):
    """A desk that was told some rows."""
    desk = Desk()
    for row in rows:
        desk.say(row)
    return desk


def row_of(deed):
    return " ".join(str(part) for part in deed)


def marks_row(told):
    """The answer to `marks`, by a dict."""
    return " ".join(f"{'+'.join(map(str, mark)) if mark else '-'}:{many}" for mark, many in told.items())


def no_rows():
    """Things that are no row of a form, when a desk has a dip and a fold."""
    rows = ["", " ", "  ", "\n", "x", "ok", "Turn", "TURN", "turn ", " turn", "turn 0", "turn\n", "turn\nturn",
            "turn;turn",
            "open 1", "opens", "undo 1", "undo ", "undone", "redo", "strip", "strip 1 2", "strip  1", "strip 1 ",
            " strip 1",
            "strip above", "over", "over 1 1", "over  1", "over above", "under", "under 1 ", "under\t1", "under 1\n",
            "dip", "dip above", "dip above 1 0", "dip above 1 0 0 0", "dip 1 above 0 0", "dip sideways 1 0 0",
            "dip Above 1 0 0", "dip  1 0 0", "dip above  1 0 0", "dip over 1 0 0", "dip 1 0 0", "columns 0", "columns ",
            "column", "layers", "layers 0 0", "layers above", "spot", "spot 0 0", "spot  0", "place", "place 0",
            "place 0 0 0", "place 0  0", "bend", "bend 0 0", "bend hill", "bends 0", "bends hill", "dyes", "dyes 0 0",
            "many", "many 0 0", "ahead", "ahead 0", "ahead 0 0 0", "nth", "nth 0", "nth 0 0 0", "marks", "marks ",
            "marks 0 0 0 0", "marks 0  1", "marks 0 1 ", "marks 0,1", "marks 0+1", "history 0", "history ", "histories",
            "say turn", "fold over 1", "taken 0", "paper 0", "row", "dips", "len", "places", "open_up", "__len__",
            "say"]
    ones = ("strip", "over", "under", "layers", "spot", "bend", "dyes", "many", "marks")
    for number in NO_NUMBERS:
        rows += [f"{word} {number}" for word in ones]
        rows += [f"{word} {number} 0" for word in ("place", "ahead", "nth", "marks")]
        rows += [f"{word} 0 {number}" for word in ("place", "ahead", "nth", "marks")]
        rows += [f"marks 0 1 {number}", f"dip above {number} 0 0", f"dip above 1 {number} 0", f"dip above 1 0 {number}"]
    things = by_hand.neither_whole_nor_told() + [0, 1, b"turn", ["turn"], ("turn",), {"turn"}, by_hand.Pretender(str)]
    return rows + [thing for thing in things if type(thing) is not str]


class Answers(unittest.TestCase):
    def test_a_few_by_sight(self):
        desk = Desk()
        rows = (("history", "strip 1"), ("columns", "1"), ("layers 0", "1"), ("spot 0", "0 0 0 up"), ("bends", "0 0"),
                ("dyes 0", "none"), ("strip 5", "ok"), ("columns", "5"), ("dip above 1 0 1", "0"), ("over 2", "ok"),
                ("columns", "3"), ("layers 0", "1"), ("layers 2", "2"), ("spot 3", "1 0 1 down"),
                ("spot 4", "0 0 0 down"),
                ("place 1 1", "0"), ("place 2 0", "2"), ("bend 1", "dale"), ("bend 0", "flat"), ("bends", "0 1"),
                ("under 2", "ok"), ("bends", "1 2"), ("bend 0", "hill"), ("open", "ok"), ("turn", "ok"),
                ("under 1", "ok"), ("bend 2", "hill"),
                ("bends", "1 2"), ("undo", "ok"), ("undo", "ok"), ("dip above 1 1 2", "1"), ("dip below 9 0 0", "2"),
                ("dyes 0", "0"), ("dyes 3", "1"), ("many 1", "2"), ("many 2", "1"), ("ahead 1 3", "1"),
                ("ahead 1 0", "0"),
                ("nth 1 1", "3"), ("nth 1 2", "none"), ("marks 0", "-:3 0:2"), ("marks 2 0", "-:2 0:1 1:2"),
                ("marks 0 1 2", "0:2 1:2 2:1"), ("dip above 2 0 2", "3"), ("dyes 4", "2 3"), ("dyes 1", "0 3"),
                ("marks 3 0", "0:3 0+1:2"), ("marks 3 2 0", "0:2 0+1:1 0+2:2"),
                ("history", "strip 5;dip above 1 0 1;over 2;under 2;open;dip above 1 1 2;dip below 9 0 0;"
                            "dip above 2 0 2"))
        for row, answer in rows:
            self.assertEqual(desk.say(row), answer, row)
            self.assertIs(type(desk.say("columns")), str)

    def test_as_folded_by_hand(self):
        for hand in hands.works():
            desk = told_all([f"strip {hand.places}"])
            again = hands.HandStrip(hand.places)
            for deed in hand.history:
                again.do(deed)
                due = str(len(again.dips) - 1) if deed[0] == "dip" else "ok"
                self.assertEqual(desk.say(row_of(deed)), due)
            self.answers(desk, again)

    def answers(self, desk, hand):
        piles = hand.piles()
        self.assertEqual(desk.say("columns"), str(len(piles)))
        for column, pile in piles.items():
            self.assertEqual(desk.say(f"layers {column}"), str(len(pile)))
            self.assertEqual([desk.say(f"place {column} {depth}") for depth in range(len(pile))],
                             [str(place) for place, _ in pile])
        kinds = by_hand.bends(hand.places, piles)
        self.assertEqual([desk.say(f"bend {place}") for place in range(hand.places - 1)], kinds)
        self.assertEqual(desk.say("bends"), f"{kinds.count('hill')} {kinds.count('dale')}")
        for place, spot in by_hand.spots(piles).items():
            self.assertEqual(desk.say(f"spot {place}"), row_of(spot))
            self.assertEqual(desk.say(f"dyes {place}"), row_of(hand.dyes(place)) or "none")
        for number, (_, _, _, those) in enumerate(hand.dips):
            self.assertEqual(desk.say(f"many {number}"), str(len(those)))
            for place in range(0, hand.places + 1, 3):
                self.assertEqual(desk.say(f"ahead {number} {place}"), str(len([one for one in those if one < place])))
            nth = [desk.say(f"nth {number} {at}") for at in range(len(those) + 1)]
            self.assertEqual(nth, [*map(str, sorted(those)), "none"])
            for dips in ((number,), (number, 0), (0, number), (number, 1, 0), (2, 0, number)):
                if max(dips) < len(hand.dips) and len(set(dips)) == len(dips):
                    self.marked(desk, hand, dips)
        text = "\n".join(row_of(deed) for deed in [("strip", hand.places), *hand.history])
        self.assertEqual(desk.say("history"), text.replace("\n", ";"))
        self.assertEqual(text, show(hand.places, hand.history))

    def marked(self, desk, hand, dips):
        row = row_of(("marks", *dips))
        if hand.can_be_marked(dips):
            self.assertEqual(desk.say(row), marks_row(hand.marks(dips)))
        else:
            self.assertRaises(errors.NoVat, desk.say, row)

    def test_far_strips(self):
        for seed in range(3):
            places = LONGEST - seed
            history = hands.far_history(places, 90, seed)
            desk = told_all(show(places, history).split("\n"))
            strip = strip_of(places, history)
            row = strip.row()
            pick = by_hand.picker(seed)
            self.assertEqual(desk.say("columns"), str(columns(places, row)))
            for place in (0, places - 1, pick(places)):
                self.assertEqual(desk.say(f"spot {place}"), row_of(strip.spot(place)))
                self.assertEqual(desk.say(f"dyes {place}"), row_of(strip.dyes(place)) or "none")
                column, above, _, _ = strip.spot(place)
                self.assertEqual(desk.say(f"place {column} {above}"), str(place))
                self.assertEqual(place_at(places, row, column, above), place)
                self.assertEqual(desk.say(f"layers {column}"), str(layers(places, row, column)))
            for number in range(len(strip)):
                self.assertEqual(desk.say(f"many {number}"), str(strip.taken(number)))
                self.assertEqual(desk.say(f"marks {number}"), marks_row(strip.marks((number,))))
                place = pick(places)
                self.assertEqual(desk.say(f"ahead {number} {place}"), str(strip.taken_below(number, place)))
                self.assertEqual(desk.say(f"nth {number} 0"), str(strip.nth_taken(number, 0)))

    def test_told_another_desks_history(self):
        for hand in list(hands.works())[::3]:
            one = told_all([f"strip {hand.places}", *map(row_of, hand.history)])
            other = told_all(one.say("history").split(";"))
            self.assertEqual(read(one.say("history").replace(";", "\n")), (hand.places, hand.history))
            for row in (*QUESTIONS, *[f"dyes {place}" for place in range(hand.places)], "marks 1 0", "marks 2 1 0"):
                told = []
                for desk in (one, other):
                    try:
                        told.append(desk.say(row))
                    except errors.FoldError as error:
                        told.append(type(error))
                self.assertEqual(told[0], told[1], row)

    def test_numbers_of_many_figures(self):
        for many in (40, 60, 61, 3900, 5000):
            depth = "9" * many
            desk = told_all(["strip 7", f"dip above {depth} 0 6"])
            self.assertEqual(desk.say("history"), f"strip 7;dip above {depth} 0 6")
            self.assertEqual(desk.say("many 0"), "7")
            self.assertEqual(desk.say(f"nth 0 {depth}"), "none")
            for row, kind in (("strip", "NoPlaces"), ("over", "NoLine"), ("layers", "NoColumn"), ("place 0", "NoDepth"),
                              ("spot", "NoPlace"), ("bend", "NoPlace"), ("dyes", "NoPlace"), ("many", "NoNumber"),
                              ("ahead 0", "NoNumber"), ("marks 0", "NoVat")):
                self.assertRaises(getattr(errors, kind), desk.say, f"{row} {depth}")


class Refusals(unittest.TestCase):
    def setUp(self):
        self.rows = ["strip 5", "over 2", "dip above 1 0 2", "dip below 2 1 1", "turn", "dip above 1 0 0"]
        self.desk = told_all(self.rows)
        self.history = ";".join(self.rows)

    def refused(self, row, kind):
        with self.assertRaises(errors.FoldError) as caught:
            self.desk.say(row)
        self.assertIs(type(caught.exception), kind, row)

    def test_no_form(self):
        for number, row in enumerate(no_rows()):
            with self.subTest(number):
                self.refused(row, errors.NoForm)
                self.assertRaises(errors.NoForm, Desk().say, row)
        self.assertEqual(self.desk.say("history"), self.history)

    def test_what_the_stages_refuse(self):
        rows = (("strip 0", "NoPlaces"), ("strip 1" + "0" * 29 + "1", "NoPlaces"), ("over 0", "NoLine"),
                ("under 3", "NoLine"),
                ("dip above 0 0 0", "NoDip"), ("dip below 1 2 1", "NoDip"), ("dip above 1 0 3", "NoDip"),
                ("layers 3", "NoColumn"), ("place 3 9", "NoColumn"), ("place 0 2", "NoDepth"), ("place 2 1", "NoDepth"),
                ("spot 5", "NoPlace"), ("bend 4", "NoPlace"), ("dyes 5", "NoPlace"), ("many 3", "NoNumber"),
                ("ahead 3 0", "NoNumber"), ("ahead 0 6", "NoNumber"), ("nth 3 0", "NoNumber"), ("marks 3", "NoVat"),
                ("marks 0 0", "NoVat"), ("marks 1 0 1", "NoVat"), ("marks 0 1 3", "NoVat"))
        for row, kind in rows:
            self.refused(row, getattr(errors, kind))
        self.assertEqual(self.desk.say("history"), self.history)
        desk = Desk()
        for row, kind in (("open", "Nothing"), ("over 1", "NoLine"), ("bend 0", "NoPlace"), ("many 0", "NoNumber"),
                          ("marks 0", "NoVat"), ("undo", "NoneYet"), ("spot 1", "NoPlace")):
            self.assertRaises(getattr(errors, kind), desk.say, row)
        self.assertEqual(desk.say("history"), "strip 1")

    def test_full(self):
        desk = told_all(["strip 60", *["over 1"] * 40])
        for row in ("turn", "over 1", "under 1"):
            self.assertRaises(errors.Full, desk.say, row)
        self.assertRaises(errors.NoLine, desk.say, "over 60")
        for number in range(40):
            self.assertEqual(desk.say("dip above 1 0 0"), str(number))
        self.assertRaises(errors.Full, desk.say, "dip above 1 0 0")
        self.assertRaises(errors.NoDip, desk.say, "dip above 0 0 0")
        self.assertEqual(desk.say("undo"), "ok")
        self.assertEqual(desk.say("dip below 1 0 0"), "39")
        self.assertEqual(desk.say("open"), "ok")
        self.assertEqual(desk.say("turn"), "ok")
        self.assertRaises(errors.Full, desk.say, "turn")
        self.assertEqual([desk.say("undo"), desk.say("undo")], ["ok", "ok"])
        self.assertRaises(errors.Full, desk.say, "turn")

    def test_rows_of_which_none_is_a_beginning(self):
        desk = told_all(["strip 5", "over 2", "dip above 1 0 0", "open", "under 2", "dip above 1 0 0"])
        self.assertRaises(errors.NoVat, desk.say, "marks 0 1")
        self.assertEqual(desk.say("marks 1"), "-:4 0:1")


class Undo(unittest.TestCase):
    def test_a_few_by_sight(self):
        desk = told_all(["strip 5", "over 2", "dip above 1 0 0", "open", "strip 3", "turn"])
        histories = ["strip 3", "strip 5;over 2;dip above 1 0 0;open", "strip 5;over 2;dip above 1 0 0",
                     "strip 5;over 2", "strip 5", "strip 1"]
        for history in histories:
            self.assertEqual(desk.say("undo"), "ok")
            self.assertEqual(desk.say("history"), history)
        for _ in range(3):
            self.assertRaises(errors.NoneYet, desk.say, "undo")
            self.assertEqual(desk.say("history"), "strip 1")
        self.assertEqual(desk.say("turn"), "ok")
        self.assertEqual(desk.say("undo"), "ok")
        self.assertRaises(errors.NoneYet, desk.say, "undo")

    def test_a_dips_number_is_free_again(self):
        desk = told_all(["strip 5", "dip above 1 0 0"])
        self.assertEqual([desk.say("dip above 1 1 4"), desk.say("undo"), desk.say("dip above 1 4 4")], ["1", "ok", "1"])
        self.assertEqual([desk.say("many 1"), desk.say("dyes 1"), desk.say("dyes 4")], ["1", "none", "1"])
        desk.say("undo")
        self.assertRaises(errors.NoNumber, desk.say, "many 1")

    def test_an_opening_undone_stands_again(self):
        desk = told_all(["strip 5", "over 2", "turn", "open", "open"])
        self.assertEqual(desk.say("columns"), "5")
        desk.say("undo")
        self.assertEqual((desk.say("columns"), desk.say("spot 4")), ("3", "0 0 0 down"))
        desk.say("undo")
        self.assertEqual((desk.say("columns"), desk.say("spot 4")), ("3", "2 0 0 up"))
        self.assertEqual([desk.say("open"), desk.say("open")], ["ok", "ok"])
        self.assertRaises(errors.Nothing, desk.say, "open")

    def test_refused_rows_and_questions_are_passed_by(self):
        desk = told_all(["strip 5", "over 2"])
        for row in ("over 9", "x", None, "strip 0", "dip above 0 0 0", "bend 4", "marks 0"):
            self.assertRaises(errors.FoldError, desk.say, row)
        for row in ("columns", "layers 0", "spot 1", "place 0 0", "bend 0", "bends", "dyes 1", "history"):
            desk.say(row)
        self.assertEqual(desk.say("undo"), "ok")
        self.assertEqual(desk.say("history"), "strip 5")

    def test_back_over_every_history_that_was(self):
        for seed in range(25):
            pick = by_hand.picker(seed)
            desk = Desk()
            # The rows that were done and are not undone, and the history behind each of them.
            was = ["strip 1"]
            hand = hands.HandStrip(1)
            for _ in range(60):
                if pick(12) == 0:
                    hand = hands.HandStrip(1 + pick(9))
                    self.assertEqual(desk.say(f"strip {hand.places}"), "ok")
                    was.append(f"strip {hand.places}")
                else:
                    hand.do(hand.some_deed(pick))
                    desk.say(row_of(hand.history[-1]))
                    was.append(f"{was[-1]};{row_of(hand.history[-1])}")
                self.assertEqual(desk.say("history"), was[-1])
                while pick(5) == 0 and len(was) > 1:
                    self.assertEqual(desk.say("undo"), "ok")
                    was.pop()
                    self.assertEqual(desk.say("history"), was[-1])
                    places, history = read(was[-1].replace(";", "\n"))
                    hand = hands.HandStrip(places)
                    for deed in history:
                        hand.do(deed)
                self.alike(desk, hand)
            while len(was) > 1:
                was.pop()
                self.assertEqual(desk.say("undo"), "ok")
                self.assertEqual(desk.say("history"), was[-1])
            self.assertRaises(errors.NoneYet, desk.say, "undo")

    def alike(self, desk, hand):
        lies = by_hand.spots(hand.piles())
        self.assertEqual(desk.say("columns"), str(len(hand.piles())))
        for place in (0, hand.places - 1):
            self.assertEqual(desk.say(f"spot {place}"), row_of(lies[place]))
            self.assertEqual(desk.say(f"dyes {place}"), row_of(hand.dyes(place)) or "none")

    def test_300_deeds(self):
        rows = ["strip 9"] + ["over 4", "turn", "dip above 2 0 1", "open", "open", "under 2", "open", "turn"] * 37
        desk = told_all(rows[:297])
        for many in range(len(rows[:297]), 0, -1):
            self.assertEqual(desk.say("history"), ";".join(rows[:many]))
            desk.say("undo")
        self.assertEqual(desk.say("history"), "strip 1")

    def test_one_desk_changes_no_other_one(self):
        one, other = Desk(), Desk()
        one.say("strip 5")
        one.say("over 2")
        self.assertEqual(other.say("history"), "strip 1")
        self.assertRaises(errors.NoneYet, other.say, "undo")
        other.say("turn")
        self.assertEqual(one.say("history"), "strip 5;over 2")


if __name__ == "__main__":
    unittest.main()
