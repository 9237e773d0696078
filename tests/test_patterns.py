"""Points 20, 21 and 22: patterns, the folds that begin a strip, rows that make them, papers that none does."""

import unittest
from itertools import combinations, product

from foldvat.bends import bend, bends
from foldvat.errors import NoPattern, TooMany
from foldvat.patterns import beginnings, is_pattern, row_for, shut, shut_holds
from foldvat.rows import is_row
from tests import by_hand
from tests import by_hand_strips as hands

SIGNS = {"hill": "h", "dale": "d", "flat": "-"}


def patterns(most):
    """All patterns of none to so many signs."""
    for many in range(most + 1):
        for signs in product("hd-", repeat=many):
            yield "".join(signs)


def pattern_of(places, row):
    """The bends behind a row as a pattern, as the program tells them."""
    return "".join(SIGNS[bend(places, row, place)] for place in range(places - 1))


def long_rows():
    """Places and rows of up to forty bends in strips of 300 places at most."""
    pick = by_hand.picker(41)
    for places in (300, 300, 300, 299, 256, 128, 97, 64, 41, 40, 30, 17):
        for _ in range(3):
            row = []
            width = places
            while width > 1:
                deed = ("turn",) if pick(5) == 0 else (("over", "under")[pick(2)], 1 + pick(width - 1))
                if len(row) == 40 or sum(bends(places, [*row, deed])) > 40:
                    break
                row.append(deed)
                width = by_hand.width_behind(width, deed)
            yield places, row


def long_patterns():
    """Patterns of up to 299 signs and forty hills and dales: those of rows, and the same with one sign changed."""
    pick = by_hand.picker(43)
    for places, row in long_rows():
        pattern = pattern_of(places, row)
        yield pattern
        for _ in range(4):
            at = pick(len(pattern))
            changed = pattern[:at] + by_hand.chosen("hd-", pick) + pattern[at + 1:]
            if len(changed) - changed.count("-") <= 40:
                yield changed
    for many in (299, 200, 77, 40):
        for bent in (1, 2, 3, 20, 40):
            signs = ["-"] * many
            for _ in range(bent):
                signs[pick(many)] = by_hand.chosen("hd", pick)
            yield "".join(signs)


class Patterns(unittest.TestCase):
    def test_what_is_one(self):
        for pattern in patterns(4):
            self.assertIs(is_pattern(pattern), True, pattern)
        for pattern in ("", "-" * 299, "h" * 299, "hd-" * 99 + "hd", "h" * 41, "d" * 41):
            self.assertIs(is_pattern(pattern), True)

    def test_what_is_none(self):
        for number, thing in enumerate(hands.no_patterns()):
            with self.subTest(number):
                self.assertIs(is_pattern(thing), False)
                self.assertRaises(NoPattern, beginnings, thing)
                self.assertRaises(NoPattern, row_for, thing)
                self.assertRaises(NoPattern, shut, thing)
                self.assertRaises(NoPattern, shut_holds, thing, [])
                self.assertRaises(NoPattern, shut_holds, thing, thing)

    def test_299_signs_and_no_more(self):
        self.assertEqual(row_for("-" * 299), [])
        self.assertRaises(NoPattern, row_for, "-" * 300)
        self.assertEqual(row_for("-" * 298 + "d"), [("over", 299)])

    def test_forty_hills_and_dales_and_no_more(self):
        for pattern in ("h" * 40, "d" * 40, "hd" * 20, "-" * 200 + "hhd" * 13 + "h" + "-" * 59, "h-" * 40):
            self.assertEqual((row_for(pattern) is None), (shut(pattern) is not None))
            beginnings(pattern)
            self.assertIs(shut_holds(pattern, []), False)
        for pattern in ("h" * 41, "d" * 41, "hd" * 20 + "h", "-" * 200 + "h" * 41, "h" * 299, "-h" * 41,
                        "h" * 21 + "d" * 20):
            self.assertIs(is_pattern(pattern), True)
            self.assertRaises(TooMany, beginnings, pattern)
            self.assertRaises(TooMany, row_for, pattern)
            self.assertRaises(TooMany, shut, pattern)
            for paper in ([], None, [(0, len(pattern) + 1)]):
                self.assertRaises(TooMany, shut_holds, pattern, paper)


class Beginnings(unittest.TestCase):
    def test_a_few_by_sight(self):
        self.assertEqual(beginnings(""), [])
        self.assertEqual(beginnings("-" * 299), [])
        self.assertEqual(beginnings("h"), [0])
        self.assertEqual(beginnings("hh"), [0, 1])
        self.assertEqual(beginnings("hhd"), [0, 1, 2])
        self.assertEqual(beginnings("hdh"), [0, 2])
        self.assertEqual(beginnings("h-d"), [0, 2])
        self.assertEqual(beginnings("-d-"), [1])
        self.assertEqual(beginnings("-hd-h"), [4])
        self.assertEqual(beginnings("-hd-hh-"), [])

    def test_word_by_word(self):
        for pattern in [*patterns(7), *long_patterns()]:
            told = beginnings(pattern)
            self.assertIs(type(told), list)
            self.assertEqual(told, hands.begins(pattern, (0, len(pattern) + 1)), pattern)


class Rows(unittest.TestCase):
    def test_all_short_ones_against_all_rows(self):
        for places in range(1, 9):
            made = hands.made(places)
            for signs in product("hd-", repeat=places - 1):
                pattern = "".join(signs)
                row = row_for(pattern)
                self.assertEqual(row is not None, pattern in made, pattern)
                if row is not None:
                    self.makes(row, pattern)

    def makes(self, row, pattern):
        places = len(pattern) + 1
        self.assertIs(type(row), list)
        self.assertTrue(all(type(deed) is tuple for deed in row))
        self.assertIs(is_row(places, row), True, (pattern, row))
        self.assertEqual(hands.signs(places, by_hand.courses(places, row)[-1]), pattern, row)
        self.assertEqual(pattern_of(places, row), pattern, row)

    def test_a_flat_pattern_has_the_empty_row(self):
        for many in (0, 1, 2, 40, 298, 299):
            self.assertEqual(row_for("-" * many), [])
            self.assertIsNone(shut("-" * many))

    def test_forty_folds(self):
        for pattern in ("h" * 40, "d" * 40, "hhd" * 13 + "d", "h" * 40 + "-" * 259):
            row = row_for(pattern)
            if pattern.startswith("hhh"):
                self.assertEqual(len(row), 40)
            if row is not None:
                self.makes(row, pattern)
        self.assertIsNotNone(row_for("d" * 40))

    def test_the_bends_of_a_row_have_a_row(self):
        many = 0
        for places, row in long_rows():
            pattern = pattern_of(places, row)
            found = row_for(pattern)
            self.assertIsNotNone(found, (places, row))
            self.makes(found, pattern)
            self.assertIsNone(shut(pattern))
            many = max(many, len(row))
        self.assertGreaterEqual(many, 10)

    def test_just_one_of_a_row_and_a_paper(self):
        told = {True: 0, False: 0}
        for pattern in [*patterns(7), *long_patterns()]:
            row, paper = row_for(pattern), shut(pattern)
            self.assertIs(row is None, paper is not None, pattern)
            told[row is None] += 1
            if row is not None:
                self.makes(row, pattern)
            else:
                self.assertIs(shut_holds(pattern, paper), True, pattern)
                self.assertTrue(hands.is_paper(pattern, paper), pattern)
        self.assertGreater(min(told.values()), 100)


class Papers(unittest.TestCase):
    # Here a fold in the middle leaves two sides of one length, both shut, and no other fold begins the strip.
    EVEN = "-hh-h-dd-"

    def test_a_few_by_sight(self):
        self.assertEqual(shut("-hh-"), [(0, 5)])
        self.assertIsNone(shut("-h-"))
        self.assertIs(shut_holds("-hh-", [(0, 5)]), True)
        self.assertIs(shut_holds("-h-", [(0, 4)]), False)
        self.assertIs(shut_holds("", [(0, 1)]), False)
        self.assertIs(shut_holds("---", [(0, 4)]), False)

    def test_kinds_of_what_is_told(self):
        for pattern in ("-hh-", self.EVEN):
            paper = shut(pattern)
            self.assertIs(type(paper), list)
            for stretch in paper:
                self.assertIs(type(stretch), tuple)
                self.assertEqual([type(end) for end in stretch], [int, int])

    def test_each_choice_of_stretches(self):
        for pattern in patterns(3):
            choices = hands.all_stretches(len(pattern) + 1)
            for many in range(len(choices) + 1):
                for paper in combinations(choices, many):
                    told = hands.is_paper(pattern, paper)
                    self.assertIs(shut_holds(pattern, list(paper)), told, (pattern, paper))
                    self.assertFalse(told and row_for(pattern) is not None)
        for pattern in ("-hh-", "-hd-", "-dd-", "hdd-", "-hhh", "h-dd"):
            choices = [stretch for stretch in hands.all_stretches(5) if stretch[1] - stretch[0] > 1]
            for many in range(len(choices) + 1):
                for paper in combinations(choices, many):
                    self.assertIs(shut_holds(pattern, paper), hands.is_paper(pattern, paper), (pattern, paper))

    def test_both_sides_of_one_length(self):
        self.assertEqual(beginnings(self.EVEN), [4])
        for paper in ([(0, 5), (0, 10)], [(0, 10), (5, 10)], [(0, 5), (0, 10), (5, 10)]):
            self.assertIs(shut_holds(self.EVEN, paper), True, paper)
        self.assertIs(shut_holds(self.EVEN, [(0, 10)]), False)
        self.assertIn(shut(self.EVEN), ([(0, 5), (0, 10)], [(0, 10), (5, 10)], [(0, 5), (0, 10), (5, 10)]))

    def test_a_stretch_to_which_a_fold_leads(self):
        # A fold at bend 0 leaves (1, 6), whose bends are as those of "-hh-".
        self.assertEqual(beginnings("h-hh-"), [0])
        self.assertIs(shut_holds("h-hh-", [(0, 6), (1, 6)]), True)
        self.assertIs(shut_holds("h-hh-", [(0, 6)]), False)
        self.assertIs(shut_holds("h-hh-", [(1, 6)]), False)
        self.assertIs(shut_holds("h-hh-", [(0, 1), (0, 6), (1, 6)]), False)
        self.assertIs(shut_holds("h-hh-", [(0, 6), (1, 6), (4, 6)]), False)
        self.assertIs(shut_holds("h-hh-", [(1, 6), (0, 6)]), False)
        # One that nothing leads to does no harm, where no fold begins it or its own folds are told as well.
        self.assertIs(shut_holds("-hh--hh-", [(0, 5), (0, 9)]), True)
        self.assertIs(shut_holds("-hh--hh-", [(0, 5), (0, 9), (4, 9)]), True)
        self.assertIs(shut_holds("-hh--hh-", [(0, 3), (0, 9)]), False)
        self.assertIs(shut_holds("-hh-h", [(0, 5), (0, 6)]), True)
        self.assertIs(shut_holds("-hh-h", [(0, 5), (0, 6), (1, 5)]), False)

    def test_papers_with_something_left_out_or_more(self):
        shut_ones = [pattern for pattern in [*patterns(6), *long_patterns()] if shut(pattern) is not None]
        parted = 0
        for pattern in shut_ones[::3]:
            paper = shut(pattern)
            for at in range(min(len(paper), 40)):
                less = paper[:at] + paper[at + 1:]
                self.assertIs(shut_holds(pattern, less), hands.is_paper(pattern, less), (pattern, less))
                parted += 1
            choices = hands.all_stretches(len(pattern) + 1)
            for other in choices[::1 + len(choices) // 20]:
                more = sorted({*paper, other})
                self.assertIs(shut_holds(pattern, more), hands.is_paper(pattern, more), (pattern, other))
        self.assertGreater(parted, 100)

    def test_what_is_none(self):
        for pattern in ("-hh-", "h-hh-", self.EVEN):
            paper = shut(pattern)
            for number, thing in enumerate(hands.no_papers(pattern, paper)):
                with self.subTest((pattern, number)):
                    self.assertIs(shut_holds(pattern, thing), False)

    def test_no_paper_where_there_is_a_row(self):
        for pattern in ("", "-", "h", "hd", "hdh", "h" * 40, "-" * 299):
            whole = (0, len(pattern) + 1)
            for paper in ([whole], [], (whole,), hands.all_stretches(len(pattern) + 1)):
                self.assertIs(shut_holds(pattern, paper), False)

    def test_lists_and_tuples_mixed(self):
        for pattern in ("-hh-", "h-hh-", self.EVEN):
            paper = shut(pattern)
            for form in by_hand.forms(paper):
                self.assertIs(shut_holds(pattern, form), True, form)
                self.assertIs(shut_holds(pattern, form[1:]), False, form)
                self.assertIs(shut_holds(pattern, form + form[:1]), False, form)

    def test_of_any_size(self):
        # Bends this close to the ends alone: no fold begins any of these stretches.
        pattern = "-" * 147 + "hhhh" + "-" * 148
        paper = [(first, behind) for first in range(147) for behind in range(153, 301)]
        self.assertEqual(beginnings(pattern), [])
        self.assertIs(shut_holds(pattern, paper), all(not hands.begins(pattern, one) for one in paper[::997]))
        self.assertIs(shut_holds(pattern, paper[:500] + paper[501:]), True)
        self.assertIs(shut_holds(pattern, paper[::-1]), False)
        self.assertIs(shut_holds(pattern, paper * 3), False)
        every = [(first, behind) for first, behind in hands.all_stretches(300) if first < 149 and behind > 149]
        self.assertIs(shut_holds(pattern, every), False)


if __name__ == "__main__":
    unittest.main()
