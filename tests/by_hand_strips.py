"""Strips at work folded layer by layer, and patterns folded by all rows. Nothing here uses the program."""

from tests import by_hand


class HandStrip:
    """A strip of few places: its piles are kept as they lie, and of each dip all spots and who took it."""

    def __init__(self, places):
        self.places = places
        self.row = []
        self.courses = [by_hand.flat(places)]
        self.history = []
        # Tuples (row, dip, spots by place, the places that took it).
        self.dips = []

    def piles(self):
        return self.courses[-1]

    def do(self, deed):
        """Does a deed that can be done."""
        if deed[0] == "open":
            self.row.pop()
            self.courses.pop()
        elif deed[0] == "dip":
            done = deed[1:]
            self.dips.append((list(self.row), done, by_hand.spots(self.piles()), by_hand.dyed(self.piles(), done)))
        else:
            self.courses.append(by_hand.do(self.piles(), deed))
            self.row.append(deed)
        self.history.append(deed)

    def some_deed(self, pick):
        """A deed that can be done now."""
        choice = pick(10)
        if choice < 2 and len(self.row) > 0 or len(self.row) == 40:
            return ("open",)
        if choice < 5 and len(self.dips) < 40:
            return ("dip", *by_hand.some_dip(self.piles(), pick))
        if choice == 5 or len(self.piles()) == 1:
            return ("turn",)
        # Lines near the ends, for the most part, so that something is left to be folded later.
        width = len(self.piles())
        line = 1 + pick(width - 1) if pick(3) == 0 else (1, width - 1)[pick(2)]
        return (("over", "under")[pick(2)], line)

    def dyes(self, place):
        return [number for number, (_, _, _, those) in enumerate(self.dips) if place in those]

    def paper(self, place):
        return [lies[place] for _, _, lies, _ in self.dips]

    def mark(self, dips, place):
        return tuple(at for at, number in enumerate(dips) if place in self.dips[number][3])

    def marks(self, dips):
        found = [self.mark(dips, place) for place in range(self.places)]
        return {mark: found.count(mark) for mark in sorted(set(found))}

    def can_be_marked(self, dips):
        """Whether of any two rows of these dips one is a beginning of the other one."""
        rows = [self.dips[number][0] for number in dips]
        return all(one[:len(other)] == other or other[:len(one)] == one for one in rows for other in rows)


def at_work(places, many, seed):
    """A strip on which so many deeds are done, chosen by a fixed rule."""
    pick = by_hand.picker(seed)
    hand = HandStrip(places)
    for _ in range(many):
        hand.do(hand.some_deed(pick))
    return hand


def works():
    """Strips of few places, few deeds and many deeds on them."""
    for seed in range(60):
        yield at_work(1 + seed * 7 % 23, seed % 13, seed)
    for seed in range(12):
        yield at_work(5 + seed * 3, 40 + seed, seed + 100)


def far_history(places, many, seed):
    """A history of so many deeds on a far strip: forty deeds stand at last, and forty dips were done."""
    pick = by_hand.picker(seed)
    widths = [places]
    row = []
    history = []
    dips = 0
    wanted = by_hand.wandering(places, 40, seed)
    while len(history) < many:
        choice = pick(5)
        if choice == 0 and dips < 40:
            first = pick(widths[-1])
            last = first + pick(widths[-1] - first)
            history.append(("dip", ("above", "below")[pick(2)], 1 + pick(10 ** pick(13)), first, last))
            dips += 1
        elif choice == 1 and row and many - len(history) > 2 * (40 - len(row)) + 2 * (40 - dips) + 9:
            history.append(("open",))
            row.pop()
            widths.pop()
        elif len(row) < 40:
            deed = wanted[len(row)]
            if deed[0] != "turn":
                deed = (("over", "under")[pick(2)], deed[1])
            history.append(deed)
            row.append(deed)
            widths.append(by_hand.width_behind(widths[-1], deed))
        elif dips == 40:
            history += [("open",), row[39]]
    return history


def signs(places, piles):
    """The bends of piles as a pattern."""
    return "".join({"hill": "h", "dale": "d", "flat": "-"}[kind] for kind in by_hand.bends(places, piles))


def made(places):
    """Each pattern that some row of folds and turns makes, by all rows gone through."""
    found = set()
    seen = set()
    ahead = [by_hand.flat(places)]
    while ahead:
        piles = ahead.pop()
        key = tuple(tuple(piles[column]) for column in sorted(piles))
        if key not in seen:
            seen.add(key)
            found.add(signs(places, piles))
            ahead += [by_hand.do(piles, deed) for deed in by_hand.deeds_let(piles)]
    return found


def begins(pattern, stretch):
    """The bends at which a fold begins a stretch, word by word."""
    first, behind = stretch
    found = []
    for number in range(first, behind - 1):
        ahead = pattern[first:number][::-1]
        after = pattern[number + 1:behind - 1]
        if pattern[number] != "-" and all(one + other in ("hd", "dh", "--") for one, other in zip(ahead, after)):
            found.append(number)
    return found


def sides(stretch, number):
    """The sides that a fold leaves: the longer one, or both of one length."""
    first, behind = stretch
    left, right = (first, number + 1), (number + 1, behind)
    if left[1] - left[0] == right[1] - right[0]:
        return [left, right]
    return [left if left[1] - left[0] > right[1] - right[0] else right]


def is_paper(pattern, stretches):
    """Whether a rising list of stretches, as tuples, is a paper of a pattern."""
    if (0, len(pattern) + 1) not in stretches or list(stretches) != sorted(set(stretches)):
        return False
    for stretch in stretches:
        if set(pattern[stretch[0]:stretch[1] - 1]) <= {"-"}:
            return False
        for number in begins(pattern, stretch):
            if not any(side in stretches for side in sides(stretch, number)):
                return False
    return True


def all_stretches(places):
    return [(first, behind) for first in range(places) for behind in range(first + 1, places + 1)]


def no_patterns():
    """Things that are no pattern."""
    things = by_hand.neither_whole_nor_told() + [0, 1, 3, by_hand.Pretender(str), ("h",), ["h", "d"], ["-"], {"h": 1}]
    things = [thing for thing in things if type(thing) is not str]
    things += [b"", b"hd-", "H", "D", "hD-", " ", "h ", " h", "h\n", "\n", "_", "h_d", "f", "hill", "hd--+", "0",
               "\u2014"]
    things += ["h" * 300, "-" * 300, "-" * 301, "-" * 4000, "hd-" * 100, "x" * 299, "-" * 298 + "x", "x" + "-" * 298]
    return things


def no_papers(pattern, paper):
    """Things that are no paper of a pattern, one that is at hand."""
    places = len(pattern) + 1
    whole = (0, places)
    things = by_hand.neither_whole_nor_told() + [0, 1, "", whole, list(whole), [], (), [[]], [()], iter(paper)]
    things += [dict.fromkeys(paper), set(paper), {0: whole}, by_hand.Pretender(list), by_hand.StubbornList(paper)]
    wrong = by_hand.neither_whole_nor_told() + [(0,), (0, 1, 2), (0, places, places), (-1, places), (0, places + 1)]
    wrong += [(places, 0), (1, 1), (places, places), (places, places + 1), (0, 0), (0, 10 ** 39), {0, places}, "ab",
              b"ab"]
    wrong += [(0, other) for other in by_hand.neither_whole_nor_told()]
    wrong += [(other, places) for other in by_hand.neither_whole_nor_told()]
    for other in wrong:
        things += [[*paper, other], [other, *paper], [other]]
    return things + [[*paper, paper[-1]], [paper[0], *paper], paper * 2, [paper], [list(paper)]]
