"""Points 23, 24 and 25: a Strip, its deeds and what each refuses, what is told of it, a Strip told anew."""

import unittest

from foldvat import dips as whole_dips
from foldvat.errors import Full, NoDip, NoHistory, NoLine, NoNumber, NoPlace, NoPlaces, Nothing, NoVat, NoWay
from foldvat.strips import Strip, strip_of
from tests import by_hand
from tests import by_hand_strips as hands
from tests.test_dips import no_dips_of_five

LONGEST = by_hand.LONGEST
ALL = ("dip", "above", 1, 0, 4)


def done(places, history):
    """A Strip on which deeds are done one by one."""
    strip = Strip(places)
    for word, *rest in history:
        call = {"turn": strip.turn, "open": strip.open_up, "dip": strip.dip}.get(word)
        strip.fold(word, *rest) if call is None else call(*rest)
    return strip


def told(strip):
    """All that a Strip tells of itself."""
    return (strip.places(), strip.row(), strip.history(), strip.dips(), len(strip))


def all_told(strip):
    """All that a Strip of few places tells."""
    places = range(strip.places())
    numbers = range(len(strip))
    return (told(strip), [(strip.spot(place), strip.dyes(place), strip.paper(place)) for place in places],
            [(strip.taken(dip), strip.taken_below(dip, 1), strip.nth_taken(dip, 0)) for dip in numbers])


def no_ways():
    return ["Over", "over ", "", "turn", "open", "dip", "up", "overunder", b"over", ("over",), ["under"], {"over"},
            by_hand.Pretender(str), 0, 1, *by_hand.neither_whole_nor_told()]


def no_histories_of_five():
    """Things that are no history that can be done on a strip of five places."""
    deeds = [(word,) for word in no_ways() if type(word) is not str or word != "turn"]
    deeds += [(word, 1) for word in no_ways()] + [("open", None), (), [], ("over",), ("under",), ("over", 1, 1),
                                                  ("dip",), "turn", "open"]
    deeds += [(word, line) for word in ("over", "under") for line in by_hand.no_whole_numbers(1, 4)]
    deeds += [("dip", "above", 1, 0), (*ALL, 4), ("dip", ALL[1:]), ALL[1:], ("strip", 5), {"turn"}, {"turn": 1},
              iter(ALL)]
    deeds += [("dip", *dip) for dip in no_dips_of_five() if by_hand.is_listing(dip)]
    deeds += by_hand.neither_whole_nor_told()
    things = [[deed] for deed in deeds]
    things += [[("turn",), ("open",), ALL, deed, ("turn",)] for deed in deeds]
    things += [[("over", 2), ("over", 3)], [("over", 2), ("dip", "above", 1, 0, 3)], [("turn",), ("open",), ("open",)]]
    things += [[("over", 2), ("open",), ALL, ("open",)], [("turn",)] * 41, [ALL] * 41, ("turn",), "turn", "", b"", "t"]
    things += [{("turn",)}, {("turn",): 1}, {0: ("turn",)}, iter([]), range(0), by_hand.Pretender(list)]
    things += by_hand.neither_whole_nor_listing()
    return things + [[[]], [()], [None], by_hand.StubbornList([("turn",)])]


class Deeds(unittest.TestCase):
    def test_a_few_by_sight(self):
        strip = Strip(5)
        self.assertEqual(told(strip), (5, [], [], [], 0))
        self.assertIsNone(strip.fold("over", 2))
        self.assertIsNone(strip.turn())
        self.assertEqual(strip.dip("below", 1, 1, 2), 0)
        self.assertIsNone(strip.open_up())
        self.assertEqual(strip.dip("above", 10 ** 39, 0, 0), 1)
        self.assertIsNone(strip.fold("under", 1))
        self.assertEqual(strip.row(), [("over", 2), ("under", 1)])
        self.assertEqual(strip.history(), [("over", 2), ("turn",), ("dip", "below", 1, 1, 2), ("open",),
                                           ("dip", "above", 10 ** 39, 0, 0), ("under", 1)])
        self.assertEqual(strip.dips(), [([("over", 2), ("turn",)], ("below", 1, 1, 2)),
                                        ([("over", 2)], ("above", 10 ** 39, 0, 0))])
        self.assertEqual((len(strip), strip.places()), (2, 5))

    def test_as_folded_by_hand(self):
        for number in range(40):
            pick = by_hand.picker(number)
            hand = hands.HandStrip(1 + number % 17)
            strip = Strip(hand.places)
            for _ in range(30):
                hand.do(hand.some_deed(pick))
                word, *rest = hand.history[-1]
                if word == "dip":
                    self.assertEqual(strip.dip(*rest), len(hand.dips) - 1)
                elif word in ("turn", "open"):
                    self.assertIsNone((strip.turn if word == "turn" else strip.open_up)())
                else:
                    self.assertIsNone(strip.fold(word, *rest))
                dips = [(row, dip) for row, dip, _, _ in hand.dips]
                self.assertEqual(told(strip), (hand.places, hand.row, hand.history, dips, len(dips)))
            lies = by_hand.spots(hand.piles())
            self.assertEqual([strip.spot(place) for place in range(hand.places)], [lies[at] for at in sorted(lies)])

    def test_kinds_of_what_is_told(self):
        strip = done(5, [("over", 2), ALL[:3] + (0, 2), ("open",), ALL])
        for listing in (strip.row(), strip.history(), strip.dips(), strip.dyes(0), strip.paper(0)):
            self.assertIs(type(listing), list)
        for listing in (strip.history(), strip.dips(), strip.paper(0)):
            self.assertEqual({type(one) for one in listing}, {tuple})
        self.assertEqual([type(part) for part in strip.dips()[0]], [list, tuple])
        self.assertEqual([type(deed) for deed in strip.dips()[0][0]], [tuple])
        self.assertIs(type(strip.spot(3)), tuple)
        self.assertIs(type(strip.marks((1,))), dict)
        for number in (strip.places(), strip.taken(0), strip.taken_below(0, 2), strip.nth_taken(0, 1),
                       strip.dip(*ALL[1:])):
            self.assertIs(type(number), int)

    def test_no_places(self):
        for number, places in enumerate(by_hand.no_whole_numbers(1, LONGEST)):
            with self.subTest(number):
                self.assertRaises(NoPlaces, Strip, places)
                self.assertRaises(NoPlaces, strip_of, places, [])
                self.assertRaises(NoPlaces, strip_of, places, None)
        self.assertEqual((Strip(1).places(), Strip(LONGEST).places()), (1, LONGEST))

    def test_no_way_and_no_line(self):
        strip = done(7, [("over", 2), ALL])
        for number, way in enumerate(no_ways()):
            with self.subTest(number):
                self.assertRaises(NoWay, strip.fold, way, 1)
                self.assertRaises(NoWay, strip.fold, way, 0)
        for number, line in enumerate(by_hand.no_whole_numbers(1, 4)):
            with self.subTest(number):
                self.assertRaises(NoLine, strip.fold, "over", line)
                self.assertRaises(NoLine, strip.fold, "under", line)
        self.assertRaises(NoLine, Strip(1).fold, "over", 1)
        self.assertEqual(told(strip), told(done(7, [("over", 2), ALL])))

    def test_lines_are_those_of_what_stands(self):
        strip = done(9, [("over", 3), ("under", 4)])
        self.assertRaises(NoLine, strip.fold, "over", 4)
        strip.open_up()
        self.assertRaises(NoLine, strip.fold, "over", 6)
        strip.open_up()
        strip.fold("over", 8)
        self.assertEqual(strip.row(), [("over", 8)])

    def test_forty_deeds_stand_and_no_more(self):
        for history in ([("turn",)] * 40, [("over", 1)] * 40):
            strip = done(60, history)
            self.assertRaises(Full, strip.turn)
            self.assertRaises(Full, strip.fold, "over", 1)
            self.assertRaises(Full, strip.fold, "under", 1)
            self.assertRaises(NoLine, strip.fold, "over", 60)
            self.assertRaises(NoLine, strip.fold, "over", True)
            self.assertRaises(NoWay, strip.fold, "turn", 60)
            self.assertEqual(told(strip), told(done(60, history)))
            self.assertEqual(strip.dip(*ALL[1:]), 0)
            strip.open_up()
            strip.turn()
            self.assertRaises(Full, strip.turn)
            self.assertEqual(len(strip.history()), 43)

    def test_what_is_opened_makes_room(self):
        strip = Strip(3)
        for _ in range(100):
            strip.turn()
            strip.open_up()
        self.assertEqual((strip.row(), len(strip.history())), ([], 200))
        for _ in range(40):
            strip.turn()
        self.assertRaises(Full, strip.turn)
        self.assertEqual(len(strip.history()), 240)

    def test_nothing_stands(self):
        strip = Strip(5)
        self.assertRaises(Nothing, strip.open_up)
        strip.dip(*ALL[1:])
        self.assertRaises(Nothing, strip.open_up)
        strip.turn()
        strip.open_up()
        self.assertRaises(Nothing, strip.open_up)
        self.assertEqual(strip.history(), [ALL, ("turn",), ("open",)])
        strip.fold("over", 4)
        self.assertEqual(strip.row(), [("over", 4)])

    def test_no_dip(self):
        strip = done(9, [("over", 5), ("turn",), ALL])
        wrong = [dip for dip in no_dips_of_five() if by_hand.is_listing(dip) and len(dip) == 4]
        self.assertGreater(len(wrong), 60)
        for number, dip in enumerate(wrong):
            with self.subTest(number):
                self.assertRaises(NoDip, strip.dip, *dip)
        self.assertEqual(told(strip), told(done(9, [("over", 5), ("turn",), ALL])))

    def test_forty_dips_and_no_more(self):
        strip = Strip(5)
        for number in range(40):
            self.assertEqual(strip.dip("above", 1, number % 5, 4), number)
        self.assertRaises(Full, strip.dip, *ALL[1:])
        self.assertRaises(NoDip, strip.dip, "above", 1, 0, 5)
        self.assertRaises(NoDip, strip.dip, "above", 0, 0, 4)
        self.assertEqual((len(strip), len(strip.history())), (40, 40))
        strip.turn()
        strip.open_up()
        self.assertRaises(Full, strip.dip, *ALL[1:])
        self.assertEqual(strip.dyes(2), [number for number in range(40) if number % 5 <= 2])

    def test_300_deeds(self):
        for seed in range(3):
            hand = hands.at_work(20 + seed, 300, seed)
            self.assertEqual((len(hand.history), len(hand.dips)), (300, 40))
            strip = done(hand.places, hand.history)
            self.assertEqual(strip.history(), hand.history)
            for place in range(hand.places):
                self.assertEqual((strip.dyes(place), strip.paper(place)), (hand.dyes(place), hand.paper(place)))

    def test_one_strip_changes_no_other_one(self):
        one, other = Strip(5), Strip(5)
        third = strip_of(5, one.history())
        one.fold("over", 2)
        one.dip("above", 1, 0, 2)
        for strip in (other, third):
            self.assertEqual(told(strip), (5, [], [], [], 0))
        other.turn()
        self.assertEqual(one.row(), [("over", 2)])
        again = strip_of(5, one.history())
        again.open_up()
        self.assertEqual((len(one.history()), one.row(), one.spot(4)), (2, [("over", 2)], (0, 0, 0, "down")))


class Told(unittest.TestCase):
    def test_as_folded_by_hand(self):
        for hand in hands.works():
            strip = done(hand.places, hand.history)
            for place in range(hand.places):
                self.assertEqual(strip.dyes(place), hand.dyes(place), (hand.places, hand.history, place))
                self.assertEqual(strip.paper(place), hand.paper(place), (hand.places, hand.history, place))
            for number, (_, _, _, those) in enumerate(hand.dips):
                self.assertEqual(strip.taken(number), len(those))
                below = [strip.taken_below(number, place) for place in range(hand.places + 1)]
                due = [len([one for one in those if one < place]) for place in range(hand.places + 1)]
                self.assertEqual(below, due)
                nth = [strip.nth_taken(number, at) for at in range(len(those) + 2)]
                self.assertEqual(nth, [*sorted(those), None, None])

    def test_dips_stay_behind_an_opening(self):
        strip = done(5, [("over", 2), ("dip", "above", 1, 0, 1), ("open",)])
        # Folded so, place 4 lay alone at column 0, and places 3 and 2 on top at columns 1 and 2.
        self.assertEqual([strip.dyes(place) for place in range(5)], [[], [], [], [0], [0]])
        self.assertEqual([strip.paper(place) for place in (0, 3, 4)],
                         [[(1, 1, 0, "up")], [(1, 0, 1, "down")], [(0, 0, 0, "down")]])
        self.assertEqual(strip.spot(3), (3, 0, 0, "up"))
        self.assertEqual(strip.dips(), [([("over", 2)], ("above", 1, 0, 1))])
        strip.turn()
        self.assertEqual((strip.taken(0), strip.taken_below(0, 4), strip.nth_taken(0, 0)), (2, 1, 3))

    def test_a_strip_without_dips(self):
        strip = done(5, [("over", 2)])
        self.assertEqual((strip.dyes(4), strip.paper(4), strip.dips(), len(strip)), ([], [], [], 0))
        for call in (strip.dyes, strip.paper, strip.spot):
            self.assertRaises(NoPlace, call, 5)
        for call, *rest in ((strip.taken,), (strip.taken_below, 0), (strip.nth_taken, 0)):
            self.assertRaises(NoNumber, call, 0, *rest)
        self.assertRaises(NoVat, strip.marks, (0,))
        self.assertRaises(NoVat, strip.marks, ())

    def test_no_place(self):
        strip = done(5, [ALL, ("over", 2), ("dip", "above", 1, 0, 1)])
        for number, place in enumerate(by_hand.no_whole_numbers(0, 4)):
            for call in (strip.spot, strip.dyes, strip.paper):
                with self.subTest((call.__name__, number)):
                    self.assertRaises(NoPlace, call, place)

    def test_no_number(self):
        strip = done(5, [ALL, ("over", 2), ("dip", "above", 1, 0, 1)])
        for number, wrong in enumerate(by_hand.no_whole_numbers(0, 1)):
            with self.subTest(number):
                self.assertRaises(NoNumber, strip.taken, wrong)
                self.assertRaises(NoNumber, strip.taken_below, wrong, 0)
                self.assertRaises(NoNumber, strip.nth_taken, wrong, 0)
        for number, wrong in enumerate(by_hand.no_whole_numbers(0, 5)):
            with self.subTest(number):
                self.assertRaises(NoNumber, strip.taken_below, 1, wrong)
        for number, wrong in enumerate(by_hand.neither_whole_nor_told() + [-1, -10 ** 39]):
            with self.subTest(number):
                self.assertRaises(NoNumber, strip.nth_taken, 1, wrong)
        self.assertIsNone(strip.nth_taken(1, 10 ** 39))
        self.assertEqual(strip.taken_below(0, 5), 5)


class Marks(unittest.TestCase):
    def test_a_few_by_sight(self):
        strip = done(5, [("dip", "above", 1, 0, 1), ("over", 2), ("dip", "above", 1, 1, 2), ("dip", "below", 9, 0, 0)])
        self.assertEqual([strip.dyes(place) for place in range(5)], [[0], [0], [1], [1], [2]])
        self.assertEqual(strip.marks((0,)), {(): 3, (0,): 2})
        self.assertEqual(strip.marks([2, 0]), {(): 2, (0,): 1, (1,): 2})
        self.assertEqual(strip.marks((2, 1, 0)), {(0,): 1, (1,): 2, (2,): 2})
        self.assertEqual(strip.marks((0, 1, 2)), {(0,): 2, (1,): 2, (2,): 1})

    def test_as_folded_by_hand(self):
        let = {True: 0, False: 0}
        for hand in hands.works():
            strip = done(hand.places, hand.history)
            pick = by_hand.picker(len(hand.history))
            choices = [(one,) for one in range(len(strip))]
            for _ in range(30 if len(strip) else 0):
                choice = tuple(pick(len(strip)) for _ in range(2 + pick(2)))
                choices += [choice] if len(set(choice)) == len(choice) else []
            for choice in choices:
                let[hand.can_be_marked(choice)] += 1
                if hand.can_be_marked(choice):
                    found = strip.marks(choice)
                    self.assertEqual(found, hand.marks(choice), (hand.places, hand.history, choice))
                    self.assertEqual(list(found), sorted(found))
                    self.assertEqual(strip.marks(list(choice)), found)
                else:
                    self.assertRaises(NoVat, strip.marks, choice)
        self.assertGreater(min(let.values()), 50)

    def test_rows_of_which_none_is_a_beginning_of_the_other_one(self):
        strip = done(6, [("over", 3), ("turn",), ("dip", "above", 1, 0, 0), ("open",), ("dip", "above", 1, 0, 0),
                         ("open",), ("dip", "above", 1, 0, 0), ("under", 3), ("dip", "above", 1, 0, 0)])
        self.assertEqual(len(strip.marks((0, 1, 2))), 4)
        for dips in ((0, 3), (3, 0), (1, 3), (0, 2, 3), (3, 2, 1), (2, 1, 3)):
            self.assertRaises(NoVat, strip.marks, dips)
        for dips in ((2, 3), (3, 2), (2, 0), (0, 1), (1, 2, 0)):
            self.assertEqual(sum(strip.marks(dips).values()), 6)

    def test_the_same_row_done_once_more(self):
        history = [("over", 2), ("dip", "above", 1, 0, 0), ("open",), ("turn",), ("open",), ("over", 2), ("under", 1)]
        last = ("dip", "below", 1, 0, 0)
        strip, at_once = done(5, [*history, last]), done(5, [*history[:2], history[-1], last])
        self.assertEqual(strip.marks((1, 0)), at_once.marks((1, 0)))
        self.assertEqual(len(strip.marks((1, 0))), 3)

    def test_no_vat(self):
        strip = done(5, [ALL] * 5)
        wrong = [(), [], (0, 0), (1, 0, 1), [2, 2], (0, 1, 2, 3), (0, 1, 2, 0), "0", "01", "", b"\x00", {0}, {0: 1},
                 range(1)]
        wrong += [((0,),), [[0]], (None,), (0, None), iter((0,)), by_hand.Pretender(tuple), by_hand.StubbornList([0]),
                  0, 1]
        wrong += [(number,) for number in by_hand.no_whole_numbers(0, 4)]
        wrong += [(0, number, 1) for number in by_hand.no_whole_numbers(0, 4)]
        wrong += by_hand.neither_whole_nor_listing()
        for number, thing in enumerate(wrong):
            with self.subTest(number):
                self.assertRaises(NoVat, strip.marks, thing)
        self.assertEqual(strip.marks((4, 0, 2)), {(0, 1, 2): 5})


class Anew(unittest.TestCase):
    def test_as_it_was(self):
        for hand in hands.works():
            strip = strip_of(hand.places, hand.history)
            self.assertIs(type(strip), Strip)
            self.assertEqual(all_told(strip), all_told(done(hand.places, hand.history)))
            self.assertEqual(all_told(strip_of(strip.places(), strip.history())), all_told(strip))

    def test_lists_and_tuples_mixed(self):
        for seed in range(8):
            hand = hands.at_work(12, 15, seed)
            for form in by_hand.forms(hand.history):
                strip = strip_of(12, form)
                self.assertEqual(all_told(strip), all_told(done(12, hand.history)))

    def test_it_works_on(self):
        strip = strip_of(5, [["over", 2], ["dip", "above", 1, 0, 2]])
        strip.open_up()
        strip.fold("under", 4)
        self.assertEqual(strip.dip("below", 1, 3, 3), 1)
        self.assertEqual([strip.dyes(place) for place in range(5)], [[], [], [0], [0], [0, 1]])

    def test_the_longest_ones_and_one_more(self):
        for deed in (("turn",), ALL):
            self.assertEqual(len(strip_of(5, [deed] * 40).history()), 40)
            self.assertRaises(NoHistory, strip_of, 5, [deed] * 41)
        self.assertEqual(len(strip_of(5, [("turn",), ("open",)] * 150).history()), 300)
        self.assertRaises(NoHistory, strip_of, 60, [("over", 1)] * 41)

    def test_no_history(self):
        for number, history in enumerate(no_histories_of_five()):
            with self.subTest(number):
                self.assertRaises(NoHistory, strip_of, 5, history)

    def test_what_a_history_is_done_on(self):
        history = [("over", 4), ("dip", "below", 2, 0, 3)]
        self.assertEqual(strip_of(5, history).taken(0), whole_dips.taken(5, history[:1], history[1][1:]))
        self.assertRaises(NoHistory, strip_of, 4, history)
        self.assertEqual(strip_of(LONGEST, history).row(), history[:1])


if __name__ == "__main__":
    unittest.main()
