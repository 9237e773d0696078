"""Strips at work: folded, turned, opened again and dipped, with all that was done."""

from foldvat.counts import nth_taken, taken_below
from foldvat.dips import check_dip, taken, takes
from foldvat.errors import FoldError, Full, NoHistory, NoLine, NoNumber, Nothing, NoVat, NoWay
from foldvat.rows import FOLDS, MOST_DEEDS, check_number, ground_behind, grounds_of, is_among, is_listing, line_of
from foldvat.spots import check_place, spot
from foldvat.vats import MOST_DIPS, marks

MOST_DIPS_DONE = 40
# How many things stand behind the word of each deed of a history.
DEEDS = {"over": 1, "under": 1, "turn": 0, "open": 0, "dip": 4}


class Strip:
    """A strip of places, the row of deeds that stands on it, and the dips that were done."""

    def __init__(self, places):
        # The grounds behind none, one .. all deeds that stand.
        self._grounds = grounds_of(places, [])
        self._places = places
        self._row = []
        self._history = []
        # Tuples (row, dip), the row that stood a tuple.
        self._dips = []

    def _stand(self, deed):
        """Does a fold or a turn that what lies there lets."""
        if len(self._row) >= MOST_DEEDS:
            raise Full("forty deeds stand")
        self._grounds.append(ground_behind(self._grounds[-1], line_of(deed)))
        self._row.append(deed)
        self._history.append(deed)

    def fold(self, way, line):
        """Folds all at a line, over or under."""
        if type(way) is not str or way not in FOLDS:
            raise NoWay("a fold goes over or under")
        if not is_among(line, 1, self._grounds[-1][0] - 1):
            raise NoLine("no columns lie on either side of such a line")
        self._stand((way, line))

    def turn(self):
        """Lays all on its other face."""
        self._stand(("turn",))

    def open_up(self):
        """Undoes the last fold or turn that stands; dyes stay."""
        if len(self._row) == 0:
            raise Nothing("no fold and no turn stands")
        self._grounds.pop()
        self._row.pop()
        self._history.append(("open",))

    def dip(self, side, depth, first, last):
        """Dips what lies there; tells the dip's number."""
        done = (side, depth, first, last)
        check_dip(self._grounds[-1], done)
        if len(self._dips) >= MOST_DIPS_DONE:
            raise Full("forty dips were done")
        self._dips.append((tuple(self._row), done))
        self._history.append(("dip", *done))
        return len(self._dips) - 1

    def places(self):
        """The number of places."""
        return self._places

    def row(self):
        """The deeds that stand."""
        return list(self._row)

    def history(self):
        """All deeds done."""
        return list(self._history)

    def dips(self):
        """The dips, each with the row that stood: tuples (row, dip)."""
        return [(list(row), done) for row, done in self._dips]

    def __len__(self):
        return len(self._dips)

    def spot(self, place):
        """The spot of a place."""
        return spot(self._places, self._row, place)

    def dyes(self, place):
        """The numbers of the dips that a place took, rising."""
        check_place(self._places, place)
        return [number for number, (row, done) in enumerate(self._dips) if takes(self._places, row, done, place)]

    def paper(self, place):
        """For each dip the spot that a place had then."""
        check_place(self._places, place)
        return [spot(self._places, row, place) for row, _ in self._dips]

    def _asked(self, dip):
        """The dip of a number: (row, dip)."""
        check_number(dip, len(self._dips) - 1)
        return self._dips[dip]

    def taken(self, dip):
        """How many places took a dip."""
        row, done = self._asked(dip)
        return taken(self._places, row, done)

    def taken_below(self, dip, number):
        """How many places below a number took a dip."""
        row, done = self._asked(dip)
        return taken_below(self._places, row, done, number)

    def nth_taken(self, dip, number):
        """The so-manieth place that took a dip, from 0 on, or None."""
        row, done = self._asked(dip)
        return nth_taken(self._places, row, done, number)

    def marks(self, dips):
        """How many places have each mark of some dips, called by their places among these: a dict."""
        if not are_unlike(dips, len(self._dips)) or len(dips) > MOST_DIPS:
            raise NoVat("there are no such one to three dips")
        chosen = [self._dips[number] for number in dips]
        longest = max([row for row, _ in chosen], key=len)
        if any([row != longest[:len(row)] for row, _ in chosen]):
            raise NoVat("no row has all of the others as its beginnings")
        return marks(self._places, (longest, [(len(row), done) for row, done in chosen]))


def are_unlike(thing, many):
    """Whether a thing, anything, is a list of one or more unlike numbers below one."""
    if not is_listing(thing) or len(thing) == 0:
        return False
    return all([is_among(number, 0, many - 1) for number in thing]) and len(set(thing)) == len(thing)


def do(strip, deed):
    """Does a deed as a history tells it, of a form that is one; tells what the Strip tells of it."""
    word, *rest = deed
    if word == "turn":
        return strip.turn()
    if word == "open":
        return strip.open_up()
    if word == "dip":
        return strip.dip(*rest)
    return strip.fold(word, *rest)


def has_form(thing):
    """Whether a thing, anything, is of the form of a deed of a history."""
    if not is_listing(thing) or len(thing) == 0:
        return False
    word = thing[0]
    return type(word) is str and DEEDS.get(word) == len(thing) - 1


def strip_of(places, history):
    """A Strip of so many places on which the deeds of a history are done."""
    strip = Strip(places)
    if not is_listing(history):
        raise NoHistory("a history is a list of deeds")
    for deed in history:
        if not has_form(deed):
            raise NoHistory("a thing of this history is no deed")
        try:
            do(strip, deed)
        except FoldError:
            raise NoHistory("a deed of this history can't be done") from None
    return strip
