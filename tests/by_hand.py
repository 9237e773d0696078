"""Piles folded layer by layer, and other things that the tests share.

Nothing here uses the program: what it tells is held against the program's answers.
A pile is a list of tuples (place, up) from above to beneath; piles are a dict by columns.
"""

from itertools import product

DEEDS_MOST = 40
LONGEST = 10 ** 30


class AlikeToAll:
    """A thing that is equal to everything."""

    def __eq__(self, other):
        return True

    def __hash__(self):
        return 0


class Stubborn:
    """A thing that can be asked nothing."""

    def _no(self, *rest):
        raise RuntimeError("asked")

    __eq__ = __ne__ = __lt__ = __le__ = __gt__ = __ge__ = _no
    __len__ = __iter__ = __bool__ = __getitem__ = __contains__ = __repr__ = __index__ = __int__ = _no
    __hash__ = None


class StubbornList(list):
    """A list that can be asked nothing."""

    __len__ = __iter__ = __bool__ = __getitem__ = Stubborn._no


class Agreeing(type):
    """A class of classes that are equal to everything."""

    def __eq__(cls, other):
        return True

    def __hash__(cls):
        return 0


class OfAgreeingClass(metaclass=Agreeing):
    """A thing whose class is equal to everything."""


class Pretender:
    """A thing that says that it is of another class."""

    def __init__(self, pretended):
        self._pretended = pretended

    @property
    def __class__(self):
        return self._pretended


def neither_whole_nor_told():
    """Things of other kinds than a whole number."""
    return [None, True, False, 1.0, 0.0, float("nan"), 2j, "1", "", b"1", (), (1,), [], [1], {}, {1: 1}, set(), {1},
            frozenset(), object(), int, len, range(3), Exception(), AlikeToAll(), Stubborn(), StubbornList(),
            Pretender(int), Pretender(bool), OfAgreeingClass()]


def is_listing(thing):
    """Whether a thing, anything, is a list or a tuple."""
    return type(thing) is list or type(thing) is tuple


def neither_whole_nor_listing():
    """Things of other kinds than a whole number, a list or a tuple."""
    return [thing for thing in neither_whole_nor_told() if not is_listing(thing)]


def no_whole_numbers(least, most):
    """Things that are no whole number from least to most."""
    return neither_whole_nor_told() + [least - 1, least - 2, -10 ** 39, most + 1, most + 2, 10 ** 39]


def no_rows_of_five():
    """Things that are no row of a strip of five places."""
    words = ["Over", "over ", "", "fold", "open", "up", b"over", None, 1, True, ("over",), AlikeToAll(),
             Stubborn(), Pretender(str)]
    deeds = [(word, 1) for word in words] + [(word,) for word in words] + [("turning",), (b"turn",)]
    deeds += [(), [], ("over",), ("under",), ("turn", 1), ("turn", None), ("turn", "turn"), ("over", 1, 1)]
    deeds += [("under", 1, None), (1, "over"), ("over", (1,)), ("over", [1]), (("over", 1),), "turn", "over", "o1"]
    deeds += [{"over": 1}, {"turn"}, {"turn": 1}, ("open",), ("dip", "above", 1, 0, 0)]
    deeds += neither_whole_nor_told()
    deeds += [(word, line) for word in ("over", "under") for line in no_whole_numbers(1, 4)]
    things = [[deed] for deed in deeds] + [(("turn",), deed) for deed in deeds]
    things += ["turn", "over", "", b"", ("turn",), ("over", 1), ["turn"], {("turn",)}, {("turn",): 1}, {0: ("turn",)}]
    things += [iter([]), (deed for deed in ()), range(0), Pretender(list), Pretender(tuple)]
    things += neither_whole_nor_listing()
    return things + [(1,), [1], [[]], [None]]


def flat(places):
    return {place: [(place, True)] for place in range(places)}


def about(pile):
    return [(place, not up) for place, up in reversed(pile)]


def least_is_0(piles):
    least = min(piles)
    return {column - least: pile for column, pile in piles.items()}


def fold(piles, word, line):
    behind = {column: list(pile) for column, pile in piles.items() if column < line}
    for column in sorted(piles):
        if column >= line:
            there = behind.get(2 * line - 1 - column, [])
            laid = about(piles[column])
            behind[2 * line - 1 - column] = laid + there if word == "over" else there + laid
    return least_is_0(behind)


def turn(piles):
    return {len(piles) - 1 - column: about(pile) for column, pile in piles.items()}


def do(piles, deed):
    return turn(piles) if deed[0] == "turn" else fold(piles, deed[0], deed[1])


def courses(places, row):
    """The piles behind none, one .. all deeds."""
    found = [flat(places)]
    for deed in row:
        found.append(do(found[-1], deed))
    return found


def spots(piles):
    """The spots of all places, by place."""
    found = {}
    for column, pile in piles.items():
        for depth, (place, up) in enumerate(pile):
            found[place] = (column, depth, len(pile) - 1 - depth, "up" if up else "down")
    return found


def deeds_let(piles):
    """Each deed that is let by what lies there."""
    return [("turn",)] + [(word, line) for word in ("over", "under") for line in range(1, len(piles))]


def rows(places, many):
    """Each row of none to so many deeds."""
    found = [[]]
    ends = [([], flat(places))]
    for _ in range(many):
        ends = [(row + [deed], do(piles, deed)) for row, piles in ends for deed in deeds_let(piles)]
        found += [row for row, _ in ends]
    return found


def small_cases():
    """Places and rows: all short ones of short strips, then longer ones."""
    for places, many in ((1, 3), (2, 3), (3, 3), (4, 2), (5, 2), (6, 2)):
        for row in rows(places, many):
            yield places, row
    yield from mixed_cases(60)


def mixed_cases(many):
    """Places and rows of up to forty deeds, chosen by a fixed rule."""
    pick = picker(7)
    for _ in range(many):
        places = 1 + pick(45)
        piles = flat(places)
        row = []
        for _ in range(pick(12)):
            choice = deeds_let(piles)
            row.append(choice[pick(len(choice))])
            piles = do(piles, row[-1])
        yield places, row


def picker(seed):
    """A function that picks a number below another one, always the same ones in the same order."""
    state = [seed]

    def pick(below):
        found = 0
        for _ in range(4):
            state[0] = (state[0] * 6364136223846793005 + 1442695040888963407) % 2 ** 64
            found = found * 2 ** 32 + (state[0] >> 32)
        return found % below

    return pick


def width_behind(width, deed):
    return width if deed[0] == "turn" else max(deed[1], width - deed[1])


def halving(places, many):
    """A row of so many deeds, each of which folds all near the middle, over and under by turns."""
    row = []
    width = places
    for number in range(many):
        deed = ("over" if number % 3 else "under", (width + number % 2) // 2)
        row.append(deed)
        width = width_behind(width, deed)
    return row


def wandering(places, many, seed):
    """A row of so many deeds, lines anywhere, turns between."""
    pick = picker(seed)
    row = []
    width = places
    for number in range(many):
        if width == 1 or pick(6) == 0:
            deed = ("turn",)
        else:
            part = 1 + pick(width - 1)
            # Most lines leave much of the width, so that forty deeds don't end at a single column.
            line = part if pick(4) == 0 else 1 + part // 7
            deed = (("over", "under")[pick(2)], min(line, width - 1))
        row.append(deed)
        width = width_behind(width, deed)
    return row


def long_cases():
    """Places and rows of forty deeds in long strips."""
    yield LONGEST, halving(LONGEST, 40)
    yield 2 ** 40, halving(2 ** 40, 40)
    yield 2 ** 99, halving(2 ** 99, 39) + [("turn",)]
    yield LONGEST, [("turn",)] * 40
    yield LONGEST, [("under", 1)] * 40
    yield LONGEST, [("over", LONGEST - 1 - number) for number in range(40)]
    for seed in range(12):
        yield LONGEST - seed * 10 ** 28 - seed, wandering(LONGEST - seed * 10 ** 28 - seed, 40, seed)


def widened(row, size):
    """The row at lines that are so many times as far."""
    return [deed if deed[0] == "turn" else (deed[0], deed[1] * size) for deed in row]


def forms(row):
    """The row, its list and its deeds written as lists and as tuples, mixed."""
    found = []
    for outer, inner in product((list, tuple), repeat=2):
        found.append(outer([inner(deed) for deed in row]))
    found.append([list(deed) if number % 2 else tuple(deed) for number, deed in enumerate(row)])
    return found


def chosen(choice, pick):
    """One of some things."""
    return choice[pick(len(choice))]


def tall(piles):
    return max(len(pile) for pile in piles.values())


def bends(places, piles):
    """What the bend of each place but the last one is."""
    lies = spots(piles)
    found = []
    for place in range(places - 1):
        one, other = lies[place], lies[place + 1]
        if one[0] != other[0]:
            found.append("flat")
        else:
            upper = one if one[1] < other[1] else other
            found.append("dale" if upper[3] == "down" else "hill")
    return found


def pairs_passing(places, piles, line):
    lies = spots(piles)
    pairs = [{lies[place][0], lies[place + 1][0]} for place in range(places - 1)]
    return pairs.count({line - 1, line})


def dyed(piles, dip):
    """The places that take a dip."""
    side, depth, first, last = dip
    found = set()
    for column in range(first, last + 1):
        pile = piles[column] if side == "above" else piles[column][::-1]
        found |= {place for place, _ in pile[:depth]}
    return found


def all_dips(piles):
    """Each dip of small piles, up to one layer deeper than all."""
    for side in ("above", "below"):
        for depth in range(1, tall(piles) + 2):
            for first in range(len(piles)):
                for last in range(first, len(piles)):
                    yield (side, depth, first, last)


def some_dip(piles, pick):
    first = pick(len(piles))
    return (("above", "below")[pick(2)], 1 + pick(tall(piles) + 1), first, first + pick(len(piles) - first))


def some_vat(places, row, pick):
    """A vat of small piles, and the marks of all places."""
    courses_of = courses(places, row)
    dips = []
    for _ in range(1 + pick(3)):
        deeds = pick(len(row) + 1)
        dips.append((deeds, some_dip(courses_of[deeds], pick)))
    if pick(6) == 0:
        dips[-1] = dips[0]
    return (row, dips), marks(places, (row, dips))


def marks(places, vat):
    """The mark of each place of a small strip."""
    courses_of = courses(places, vat[0])
    taken = [dyed(courses_of[deeds], dip) for deeds, dip in vat[1]]
    return [tuple(number for number, those in enumerate(taken) if place in those) for place in range(places)]


def all_marks(many):
    """Each mark of so many dips, rising."""
    return sorted(tuple(number for number in range(many) if choice >> number & 1) for choice in range(2 ** many))
