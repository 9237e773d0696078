"""How many places below a number take a dip, the so-manieth that does, and how the opened strip looks."""

from foldvat.dips import check_dip
from foldvat.rows import check_nth, check_number, folds_of, grounds_of
from foldvat.spots import check_place
from foldvat.tallies import counts_below, least_where, levels_of

MOST_SIGNS = 2000


def levels_by_dip(row, grounds, dip):
    """The levels of one dip that is done behind all of a row."""
    return levels_of(folds_of(row), grounds, [(len(row), dip)])


def taken_below(places, row, dip, number):
    """How many places below a number take a dip."""
    grounds = grounds_of(places, row)
    check_dip(grounds[-1], dip)
    check_number(number, places)
    return counts_below(levels_by_dip(row, grounds, dip), number)[1]


def nth_taken(places, row, dip, number):
    """The so-manieth place that takes a dip, from 0 on, or None."""
    grounds = grounds_of(places, row)
    check_dip(grounds[-1], dip)
    check_nth(number)
    levels = levels_by_dip(row, grounds, dip)
    return least_where(places, lambda place: counts_below(levels, place + 1)[1] > number)


def signs_of(levels, start, end):
    """How the columns from start to one less than end look, as of the time of the first of these levels."""
    if len(levels) == 0:
        return "." * (end - start)
    level = levels[0]
    found = []
    for one, other, choice in level.ranges(start, end):
        if choice > 0:
            found.append("#" * (other - one))
        elif other <= level.line:
            found.append(signs_of(levels[1:], level.landing(one), level.landing(other)))
        else:
            found.append(signs_of(levels[1:], level.landing(other), level.landing(one))[::-1])
    return "".join(found)


def looks(places, row, dip, place, *, many=64):
    """How the opened strip looks from a place on: `#` for each place that takes a dip, `.` for others."""
    grounds = grounds_of(places, row)
    check_dip(grounds[-1], dip)
    check_place(places, place)
    check_number(many, MOST_SIGNS)
    return signs_of(levels_by_dip(row, grounds, dip), place, min(place + many, places))
