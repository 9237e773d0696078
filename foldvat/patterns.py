"""Patterns of hills and dales: whether folds of a strip make them, by a row that does or a paper that none can.

A pattern is a text, sign k of the bend between places k and k + 1. A stretch is a tuple (first, behind)
of places. What a fold lays on the longer side bends there with it from then on, so that only that
stretch matters later.
"""

from foldvat.errors import NoPattern, TooMany
from foldvat.rows import is_among, is_listing
from foldvat.spots import spot

MOST_SIGNS = 299
MOST_BENDS = 40
# What a bend has to be that comes to lie on another one, the other face up.
PARTNERS = {"h": "d", "d": "h", "-": "-"}


def is_pattern(thing):
    """Whether a thing, anything, is a pattern."""
    if type(thing) is not str or len(thing) > MOST_SIGNS:
        return False
    return all([sign in PARTNERS for sign in thing])


def check_pattern(pattern):
    """Refuses what is no pattern, and one of more hills and dales than a row can be asked for."""
    if not is_pattern(pattern):
        raise NoPattern("a pattern is a text of up to 299 signs, h, d and -")
    if len(pattern) - pattern.count("-") > MOST_BENDS:
        raise TooMany("there are more than forty hills and dales")


def whole_of(pattern):
    """The stretch of all places of the strip of a pattern."""
    return (0, len(pattern) + 1)


def reach_at(pattern, number):
    """How many bends on either side of one, from it on, can come to lie on one another."""
    reach = 0
    for one, other in zip(pattern[number + 1:], pattern[:number][::-1]):
        if PARTNERS[one] != other:
            break
        reach += 1
    return reach


def reaches_of(pattern):
    """The reach at each hill and dale: a dict by their numbers."""
    return {number: reach_at(pattern, number) for number, sign in enumerate(pattern) if sign != "-"}


def bent_in(reaches, stretch):
    """The numbers of the hills and dales within a stretch, rising."""
    first, behind = stretch
    return [number for number in reaches if first <= number < behind - 1]


def begun(reaches, stretch):
    """The numbers of the bends at which a fold begins a stretch, rising."""
    first, behind = stretch
    # The side with fewer bends comes to lie on the other one as a whole.
    return [number for number in bent_in(reaches, stretch)
            if min(number - first, behind - 2 - number) <= reaches[number]]


def left_by(stretch, number):
    """The stretches that a fold at a bend may leave: the longer side, or both of one length."""
    first, behind = stretch
    sides = [(first, number + 1), (number + 1, behind)]
    longest = max([end - start for start, end in sides])
    return [(start, end) for start, end in sides if end - start == longest]


def ways_from(whole, reaches):
    """The stretches to which folds lead from the whole strip on, each with their bends: a dict of lists."""
    ways = {whole: []}
    ahead = [whole]
    while len(ahead) > 0:
        stretch = ahead.pop()
        for number in begun(reaches, stretch):
            # Two sides of one length are each other's mirror images: what leads on from one does from both.
            left = left_by(stretch, number)[0]
            if left not in ways:
                ways[left] = [*ways[stretch], number]
                ahead.append(left)
    return ways


def deed_at(pattern, row, number):
    """The fold at a bend, behind a row, that makes it what its sign says."""
    places = len(pattern) + 1
    column, _, _, face = spot(places, row, number)
    line = max(column, spot(places, row, number + 1)[0])
    over = (pattern[number] == "d") == (face == "up")
    return ("over" if over else "under", line)


def row_at(pattern, numbers):
    """The row of folds at these bends, one behind the other, that makes them what their signs say."""
    row = []
    for number in numbers:
        row.append(deed_at(pattern, row, number))
    return row


def beginnings(pattern):
    """The numbers of the bends at which a fold begins the whole strip, rising."""
    check_pattern(pattern)
    return begun(reaches_of(pattern), whole_of(pattern))


def row_for(pattern):
    """A row that makes a pattern, or None."""
    check_pattern(pattern)
    reaches = reaches_of(pattern)
    for stretch, numbers in ways_from(whole_of(pattern), reaches).items():
        if len(bent_in(reaches, stretch)) == 0:
            return row_at(pattern, numbers)
    return None


def shut(pattern):
    """A paper that no row makes a pattern, or None."""
    check_pattern(pattern)
    reaches = reaches_of(pattern)
    found = sorted(list(ways_from(whole_of(pattern), reaches)))
    return found if all([len(bent_in(reaches, stretch)) > 0 for stretch in found]) else None


def is_stretch(thing, places):
    """Whether a thing, anything, is a stretch of a strip of so many places."""
    if not is_listing(thing) or len(thing) != 2:
        return False
    first, behind = thing
    return is_among(first, 0, places - 1) and is_among(behind, first + 1, places)


def rising_stretches(paper, places):
    """The stretches of a paper as tuples, or None where it is no rising list of unlike ones."""
    if not is_listing(paper):
        return None
    found = []
    for thing in paper:
        if not is_stretch(thing, places) or (len(found) > 0 and tuple(thing) <= found[-1]):
            return None
        found.append(tuple(thing))
    return found


def is_shut_in(told, reaches, stretch):
    """Whether a stretch has a hill or dale, and each fold that begins it leaves one of those told."""
    if len(bent_in(reaches, stretch)) == 0:
        return False
    return all([any([left in told for left in left_by(stretch, number)]) for number in begun(reaches, stretch)])


def shut_holds(pattern, paper):
    """Whether a thing, anything, is a paper that no row makes a pattern."""
    check_pattern(pattern)
    found = rising_stretches(paper, len(pattern) + 1)
    if found is None or whole_of(pattern) not in found:
        return False
    reaches = reaches_of(pattern)
    told = {stretch: True for stretch in found}
    return all([is_shut_in(told, reaches, stretch) for stretch in found])
