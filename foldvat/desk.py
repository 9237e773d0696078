"""The desk: rows of words are told to it, and it answers with a text."""

from foldvat.bends import bend, bends
from foldvat.errors import NoForm, NoneYet
from foldvat.forms import told_by
from foldvat.rows import columns, layers
from foldvat.spots import place_at
from foldvat.strips import Strip, do, strip_of
from foldvat.texts import row_of, rows_of


def tell_columns(strip):
    """How many columns there are."""
    return str(columns(strip.places(), strip.row()))


def tell_layers(strip, column):
    """How many layers lie at a column."""
    return str(layers(strip.places(), strip.row(), column))


def tell_spot(strip, place):
    """The spot of a place."""
    return row_of(strip.spot(place))


def tell_place(strip, column, depth):
    """The place at a column and a depth."""
    return str(place_at(strip.places(), strip.row(), column, depth))


def tell_bend(strip, place):
    """What the bend of a place is."""
    return bend(strip.places(), strip.row(), place)


def tell_bends(strip):
    """How many hills and how many dales there are."""
    return row_of(bends(strip.places(), strip.row()))


def tell_dyes(strip, place):
    """The numbers of the dips that a place took."""
    numbers = strip.dyes(place)
    return row_of(numbers) if len(numbers) > 0 else "none"


def tell_many(strip, number):
    """How many places took a dip."""
    return str(strip.taken(number))


def tell_ahead(strip, number, place):
    """How many places below one took a dip."""
    return str(strip.taken_below(number, place))


def tell_nth(strip, number, nth):
    """The so-manieth place that took a dip."""
    place = strip.nth_taken(number, nth)
    return "none" if place is None else str(place)


def tell_marks(strip, *numbers):
    """How many places have each mark of some dips."""
    found = []
    for mark, many in strip.marks(numbers).items():
        called = "+".join([str(at) for at in mark]) if len(mark) > 0 else "-"
        found.append(f"{called}:{many}")
    return " ".join(found)


def tell_history(strip):
    """All that was done, in one row."""
    return ";".join(rows_of(strip))


ANSWERS = {
    "columns": tell_columns,
    "layers": tell_layers,
    "spot": tell_spot,
    "place": tell_place,
    "bend": tell_bend,
    "bends": tell_bends,
    "dyes": tell_dyes,
    "many": tell_many,
    "ahead": tell_ahead,
    "nth": tell_nth,
    "marks": tell_marks,
    "history": tell_history,
}


class Desk:
    """A desk with a Strip, of one place at first."""

    def __init__(self):
        # The Strips that came one behind the other and are not undone; the last one lies on the desk.
        self._strips = [Strip(1)]

    def say(self, row):
        """The answer to a row."""
        told = told_by(row)
        if told is None:
            raise NoForm("this is no row of a form")
        word, *rest = told
        strip = self._strips[-1]
        if word in ANSWERS:
            answer = ANSWERS[word]
            return answer(strip, *rest)
        if word == "undo":
            self._undo()
            return "ok"
        if word == "strip":
            self._strips.append(Strip(rest[0]))
            return "ok"
        number = do(strip, told)
        return "ok" if number is None else str(number)

    def _undo(self):
        """Takes back the last deed, or the last Strip where it has none."""
        strip = self._strips[-1]
        history = strip.history()
        if len(history) > 0:
            self._strips[-1] = strip_of(strip.places(), history[:-1])
        elif len(self._strips) > 1:
            self._strips.pop()
        else:
            raise NoneYet("nothing is left that could be undone")
