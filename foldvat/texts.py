"""Histories as texts: a row `strip N`, then a row for each deed, line feeds between."""

from foldvat.errors import NoText
from foldvat.forms import figures_of, told_by
from foldvat.strips import DEEDS, strip_of


def row_of(told):
    """The row that tells a thing: its words, and its numbers by figures."""
    return " ".join([part if type(part) is str else figures_of(part) for part in told])


def rows_of(strip):
    """The rows that tell a Strip: of its places, then of each deed that was done."""
    return [row_of(told) for told in [("strip", strip.places()), *strip.history()]]


def show(places, history):
    """The text of a history."""
    return "\n".join(rows_of(strip_of(places, history)))


def is_due(word, at):
    """Whether a row of this number may begin with this word."""
    return word == "strip" if at == 0 else word in DEEDS


def read(text):
    """The places and the history that a text tells: (places, history)."""
    if type(text) is not str:
        raise NoText(None)
    found = []
    for at, row in enumerate(text.split("\n")):
        told = told_by(row)
        if told is None or not is_due(told[0], at):
            raise NoText(at)
        found.append(told)
    places, history = found[0][1], found[1:]
    strip_of(places, history)
    return (places, history)
