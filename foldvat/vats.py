"""Vats: one to three dips of one strip, done behind the first deeds of one row, and the marks they leave.

A choice is a number whose bits tell some of a vat's dips, as in tallies.py; a mark is told as the
tuple of their numbers.
"""

from foldvat.dips import is_dip_there
from foldvat.errors import NoMark, NoVat
from foldvat.rows import check_number, check_places, folds_of, grounds_or_none, is_among, is_listing
from foldvat.tallies import counts_below, least_where, levels_of

MOST_DIPS = 3


def is_part(grounds, thing):
    """Whether a thing, anything, is a tuple (deeds, dip) of a row of these grounds."""
    if not is_listing(thing) or len(thing) != 2:
        return False
    deeds, dip = thing
    return is_among(deeds, 0, len(grounds) - 1) and is_dip_there(grounds[deeds], dip)


def grounds_of_vat(places, thing):
    """The grounds of the row of a thing, or None where it is no vat of a strip of so many places."""
    if not is_listing(thing) or len(thing) != 2:
        return None
    row, dips = thing
    grounds = grounds_or_none(places, row)
    if grounds is None or not is_listing(dips) or not is_among(len(dips), 1, MOST_DIPS):
        return None
    return grounds if all([is_part(grounds, part) for part in dips]) else None


def is_vat(places, thing):
    """Whether a thing, anything, is a vat of a strip of so many places."""
    check_places(places)
    return grounds_of_vat(places, thing) is not None


def grounds_let(places, vat):
    """The grounds of a vat's row; refuses what is no vat."""
    check_places(places)
    grounds = grounds_of_vat(places, vat)
    if grounds is None:
        raise NoVat("this is no vat of such a strip")
    return grounds


def levels_by_vat(vat, grounds):
    """The levels of all dips of a vat."""
    row, dips = vat
    return levels_of(folds_of(row), grounds, dips)


def just_below(levels, place):
    """How many places below one are taken by the dips of a choice and by no others: a list by choices."""
    found = counts_below(levels, place)
    bit = 1
    while bit < len(found):
        # Step by step those that one more dip takes are taken off.
        found = [many if dips & bit else many - found[dips | bit] for dips, many in enumerate(found)]
        bit *= 2
    return found


def mark_of(choice):
    """The mark of a choice."""
    return tuple([number for number in range(choice.bit_length()) if choice >> number & 1])


def marks_at(vat, grounds, number):
    """How many places below a number have each mark, the marks rising."""
    found = just_below(levels_by_vat(vat, grounds), number)
    many = {mark_of(choice): worth for choice, worth in enumerate(found) if worth > 0}
    return {mark: many[mark] for mark in sorted(many)}


def marks(places, vat):
    """How many places have each mark: a dict by marks, rising."""
    return marks_at(vat, grounds_let(places, vat), places)


def marks_below(places, vat, number):
    """How many places below a number have each mark: a dict by marks, rising."""
    grounds = grounds_let(places, vat)
    check_number(number, places)
    return marks_at(vat, grounds, number)


def is_mark(thing, many):
    """Whether a thing, anything, is a mark of so many dips."""
    if not is_listing(thing) or not all([is_among(number, 0, many - 1) for number in thing]):
        return False
    return all([one < other for one, other in zip(thing, thing[1:])])


def first_marked(places, vat, mark):
    """The least place that has a mark, or None."""
    grounds = grounds_let(places, vat)
    if not is_mark(mark, len(vat[1])):
        raise NoMark("this is no mark of such a vat")
    levels = levels_by_vat(vat, grounds)
    choice = sum([1 << number for number in mark])
    return least_where(places, lambda place: just_below(levels, place + 1)[choice] > 0)


def are_alike(places, vat, one, other):
    """Whether just the same places take both of two dips of a vat."""
    grounds = grounds_let(places, vat)
    for number in (one, other):
        check_number(number, len(vat[1]) - 1)
    found = counts_below(levels_by_vat(vat, grounds), places)
    both = found[1 << one | 1 << other]
    return found[1 << one] == both and found[1 << other] == both
