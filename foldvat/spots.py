"""Where places lie behind a row of deeds, and where the piles of earlier times stand now.

A run is some layers that lie one behind the other in one pile, be it a single place: the tuple
(column, above, beneath, turned) of how many layers lie above and beneath all of it, and whether
it lies the other way up than it did at first. No deed parts it again, so it is carried as a whole.
"""

from foldvat.errors import NoDepth, NoPlace
from foldvat.rows import check_column, check_number, folds_of, grounds_of, is_among, layers_at, shift_of


def check_place(places, place):
    """Refuses what is no place of the strip."""
    if not is_among(place, 0, places - 1):
        raise NoPlace("the strip has no such place")


def carried(run, fold, ground):
    """The run behind a fold that is done on the ground on which the run lies."""
    column, above, beneath, turned = run
    line, over = fold
    rides = column >= line
    mirrored = 2 * line - 1 - column
    met = layers_at(ground, mirrored)
    if rides:
        column, above, beneath, turned = mirrored, beneath, above, not turned
    # What rides over lies on what it meets, as what stays does where the other rides under it.
    if rides == over:
        beneath += met
    else:
        above += met
    return (column + shift_of(ground, line), above, beneath, turned)


def carried_back(at, fold, ground):
    """Where a layer that lies at (column, depth) behind a fold lay ahead of it, on this ground."""
    column, depth = at
    line, over = fold
    kept = column - shift_of(ground, line)
    mirrored = 2 * line - 1 - kept
    staying = layers_at(ground, kept)
    riding = layers_at(ground, mirrored)
    if over and depth >= riding:
        return (kept, depth - riding)
    if over:
        return (mirrored, riding - 1 - depth)
    if depth < staying:
        return (kept, depth)
    return (mirrored, staying + riding - 1 - depth)


def runs_of(run, folds, grounds):
    """The run as it lies ahead of the folds, then behind each of them."""
    found = [run]
    for fold, ground in zip(folds, grounds):
        found.append(carried(found[-1], fold, ground))
    return found


def spot_of(run):
    """The run of a single place as it is told."""
    column, above, beneath, turned = run
    return (column, above, beneath, "down" if turned else "up")


def way_of(places, row, place):
    """The spots of a place: flat, then behind each deed."""
    grounds = grounds_of(places, row)
    check_place(places, place)
    return [spot_of(run) for run in runs_of((place, 0, 0, False), folds_of(row), grounds)]


def spot(places, row, place):
    """The spot of a place behind a row: (column, above, beneath, face)."""
    return way_of(places, row, place)[-1]


def place_at(places, row, column, depth):
    """The place that lies at a column at a depth, from above from 0 on."""
    grounds = grounds_of(places, row)
    check_column(grounds[-1], column)
    if not is_among(depth, 0, layers_at(grounds[-1], column) - 1):
        raise NoDepth("the pile at this column has no such depth")
    at = (column, depth)
    for fold, ground in reversed(list(zip(folds_of(row), grounds))):
        at = carried_back(at, fold, ground)
    return at[0]


def run_now(places, row, deeds, column):
    """Where the pile that lay at a column behind so many deeds stands now, as a run."""
    grounds = grounds_of(places, row)
    check_number(deeds, len(row))
    check_column(grounds[deeds], column)
    return runs_of((column, 0, 0, False), folds_of(row)[deeds:], grounds[deeds:])[-1]


def line_to(places, row, place, other):
    """The line at which a fold brings two places to one column, or None."""
    grounds = grounds_of(places, row)
    check_place(places, place)
    check_place(places, other)
    ends = [runs_of((one, 0, 0, False), folds_of(row), grounds)[-1][0] for one in (place, other)]
    # A fold at a line c lays column x on column 2 c - 1 - x: what adds up to an even number never meets.
    both = sum(ends)
    return (both + 1) // 2 if both % 2 == 1 else None
