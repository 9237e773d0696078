"""Dips behind a row of deeds: which places take the dye, and how many do."""

from foldvat.errors import NoDip
from foldvat.rows import folds_of, grounds_of, is_among, is_from, is_listing
from foldvat.spots import check_place, runs_of
from foldvat.tallies import slices

SIDES = ("above", "below")


def is_dip_there(ground, thing):
    """Whether a thing, anything, is a dip of the piles of a ground."""
    if not is_listing(thing) or len(thing) != 4:
        return False
    side, depth, first, last = thing
    if type(side) is not str or side not in SIDES:
        return False
    return is_from(depth, 1) and is_from(first, 0) and is_from(last, first) and last < ground[0]


def check_dip(ground, dip):
    """Refuses what is no dip of the piles of a ground."""
    if not is_dip_there(ground, dip):
        raise NoDip("this is no dip behind such a row")


def is_dip(places, row, thing):
    """Whether a thing, anything, is a dip behind a row."""
    return is_dip_there(grounds_of(places, row)[-1], thing)


def takes(places, row, dip, place):
    """Whether a place takes a dip."""
    grounds = grounds_of(places, row)
    check_dip(grounds[-1], dip)
    check_place(places, place)
    side, depth, first, last = dip
    column, above, beneath, _ = runs_of((place, 0, 0, False), folds_of(row), grounds)[-1]
    return first <= column <= last and (above if side == "above" else beneath) < depth


def taken(places, row, dip):
    """How many places take a dip."""
    ground = grounds_of(places, row)[-1]
    check_dip(ground, dip)
    _, depth, first, last = dip
    return sum([(end - start) * min(depth, height) for start, end, height in slices(ground, first, last + 1)])
