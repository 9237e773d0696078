"""Where a strip is bent behind a row of deeds: hills and dales, and the so-manieth of them.

Bends are told as tuples (hills, dales). The bends with numbers below one are those of the lines
between the first place and a later one. A fold makes a bend of the line at which it is done; the
other lines it brings to those between the columns to which it brings both places. So one column is
carried through the folds, and what the lines between the first column and two others come to is
kept of each fold, as if all lay face up ahead of it: what is turned has its hills and dales change
about.
"""

from foldvat.errors import NoKind, NoLine
from foldvat.rows import check_nth, check_number, folds_of, grounds_of, is_among, shift_of
from foldvat.spots import check_place
from foldvat.tallies import least_where

KINDS = ("hill", "dale")


class Step:
    """A fold, and the bends that come, by it or later, of the lines up to the columns it moves."""

    def __init__(self, line, shift, ahead, edge, start):
        self.line = line
        self.shift = shift
        # Later, of the lines from the new column 0 to where the old one comes, and the last that stays.
        self.ahead = ahead
        self.edge = edge
        # By it or later, of the lines from the old column 0 to the first one that is turned.
        self.start = start


def bent(steps, column):
    """The bends that come of the lines between column 0 and this one, ahead of all these steps."""
    stays = []
    for step in steps:
        stays.append(column < step.line)
        column = step.shift + (column if column < step.line else 2 * step.line - 1 - column)
    hills, dales = 0, 0
    for step, kept in reversed(list(zip(steps, stays))):
        if kept:
            hills, dales = hills - step.ahead[0], dales - step.ahead[1]
        else:
            hills, dales = step.start[0] + step.edge[1] - dales, step.start[1] + step.edge[0] - hills
    return (hills, dales)


def step_of(fold, ground, later):
    """The step of a fold that is done on this ground, the later steps known."""
    line, over = fold
    shift = shift_of(ground, line)
    edge = bent(later, shift + line - 1)
    if line == 0:
        # A turn leaves no column where it lies and bends nothing.
        return Step(line, shift, (0, 0), edge, (0, 0))
    ahead = bent(later, shift)
    hills, dales = (0, 1) if over else (1, 0)
    return Step(line, shift, ahead, edge, (edge[0] - ahead[0] + hills, edge[1] - ahead[1] + dales))


def steps_of(folds, grounds):
    """The steps of folds that are done one behind the other, each on its ground."""
    later = []
    for fold, ground in reversed(list(zip(folds, grounds))):
        later = [step_of(fold, ground, later), *later]
    return later


def bend(places, row, place):
    """What the bend of a place is: `flat`, `hill` or `dale`."""
    grounds = grounds_of(places, row)
    check_place(places - 1, place)
    steps = steps_of(folds_of(row), grounds)
    one, other = bent(steps, place), bent(steps, place + 1)
    for at, kind in enumerate(KINDS):
        if one[at] != other[at]:
            return kind
    return "flat"


def passing(places, row, line):
    """How many pairs of neighbours pass a line behind a row."""
    grounds = grounds_of(places, row)
    if not is_among(line, 1, grounds[-1][0] - 1):
        raise NoLine("no columns lie on either side of such a line")
    folds = folds_of(row)
    # Those are the bends that one more fold would make.
    ahead = bent(steps_of(folds, grounds), places - 1)
    behind = bent(steps_of([*folds, (line, True)], grounds), places - 1)
    return sum(behind) - sum(ahead)


def bends(places, row):
    """How many bends there are behind a row: (hills, dales)."""
    return bends_below(places, row, places)


def bends_below(places, row, number):
    """How many bends with numbers below one there are: (hills, dales)."""
    grounds = grounds_of(places, row)
    check_number(number, places)
    # The last place has no bend.
    return bent(steps_of(folds_of(row), grounds), min(number, places - 1))


def nth_bend(places, row, kind, number):
    """The number of the so-manieth hill or dale, from 0 on, or None."""
    grounds = grounds_of(places, row)
    if type(kind) is not str or kind not in KINDS:
        raise NoKind("a bend is a hill or a dale")
    check_nth(number)
    steps = steps_of(folds_of(row), grounds)
    at = KINDS.index(kind)
    return least_where(places - 1, lambda place: bent(steps, place + 1)[at] > number)
