"""How many places below a number some dips take, with no place written out.

The two piles that a fold lays on one another stay one run each. Of what a dip takes from one side
of the new pile, the nearer one of the two is all, or the other one is nothing: at most one of them
is cut in two. So, unfolding one fold after the other, few columns' ranges have to be looked at, and
each place that a dip takes lies just once in a pile that is taken as a whole while the pile that it
came to is not. These are the wholes of a dip: for each time a list of tuples (start, end), the
columns from start to one less than end.

A part is a tuple (start, end, above, depth): at these columns the dip takes so many layers, some
but not all, from above, or, where `above` is False, from beneath.

A choice is a number whose bits tell some of the dips. Counts are lists by choices: how many are
taken by every dip of the choice, by others too or not.
"""

from foldvat.rows import layers_at, shift_of


def least_where(behind, holds):
    """The least number from 0 to one less than behind for which it holds, or None.

    Where it holds for a number it holds for each greater one.
    """
    if behind == 0 or not holds(behind - 1):
        return None
    low, high = 0, behind - 1
    while low < high:
        middle = (low + high) // 2
        if holds(middle):
            high = middle
        else:
            low = middle + 1
    return low


def slices(ground, start, end):
    """The columns from start to one less than end as tuples (start, end, layers at each of them).

    Columns beyond the ground, those below 0 too, have no layers.
    """
    edges = [column for column, _ in ground[1]] + [ground[0]]
    bounds = [start, *[edge for edge in edges if start < edge < end], end]
    return [(one, other, layers_at(ground, one)) for one, other in zip(bounds, bounds[1:])]


def joined(ranges):
    """Tuples (start, end, ..) rising, those that are alike but for the columns, and lie side by side, as one."""
    found = []
    for start, end, *rest in sorted(ranges):
        if len(found) > 0 and found[-1][1:] == (start, *rest):
            start = found.pop()[0]
        found.append((start, end, *rest))
    return found


def mirrored(start, end, line):
    """The range to which a fold at this line turns a range of columns."""
    return (2 * line - end, 2 * line - start)


def parts_ahead(part, fold, ground):
    """What a part comes from, ahead of a fold that was done on this ground: (wholes, parts)."""
    start, end, above, depth = part
    line, over = fold
    shift = shift_of(ground, line)
    # What was turned lies nearer to the dip's side where it was laid there; its own sides changed about.
    rides = above == over
    near = (start - shift, end - shift)
    if rides:
        near = mirrored(near[0], near[1], line)
    wholes = []
    parts = []
    for one, other, height in slices(ground, near[0], near[1]):
        if depth < height:
            parts.append((one, other, above != rides, depth))
        elif height > 0:
            wholes.append((one, other))
        if depth > height:
            parts.append((*mirrored(one, other, line), above == rides, depth - height))
    return (wholes, parts)


def wholes_of(dip, folds, grounds):
    """The wholes of a dip that is done behind all of these folds: a list of them for each time."""
    side, depth, first, last = dip
    all_of = []
    parts = []
    for start, end, height in slices(grounds[-1], first, last + 1):
        if depth < height:
            parts.append((start, end, side == "above", depth))
        else:
            all_of.append((start, end))
    found = [joined(all_of)]
    for fold, ground in reversed(list(zip(folds, grounds))):
        ahead = [parts_ahead(part, fold, ground) for part in parts]
        found.append(joined([one for wholes, _ in ahead for one in wholes]))
        parts = joined([one for _, left in ahead for one in left])
    return found[::-1]


class Level:
    """A time, the fold that is done next, and the counts below some points.

    A point lies ahead of the column of its number. From one of the points to the next one the same
    choice of dips has its wholes. A count tells of how many of the columns below a point a layer
    comes, at this time or later, to wholes of each dip of the choice.
    """

    def __init__(self, fold, ground, flips, carried):
        self.line = fold[0]
        self.shift = shift_of(ground, fold[0])
        self.points = sorted(set([0, fold[0], ground[0], *carried, *list(flips)]))
        self.choices = []
        choice = 0
        for point in self.points[:-1]:
            choice ^= flips.get(point, 0)
            self.choices.append(choice)
        # Told by settle: the counts below the points, and below those to which they land.
        self.counts = []
        self.bases = []

    def landing(self, point):
        """The point to which the fold brings one."""
        return self.shift + (point if point <= self.line else 2 * self.line - point)

    def range_at(self, point):
        """The number of the range in which a point lies: of the last one that does not begin behind it."""
        low, high = 0, len(self.choices) - 1
        while low < high:
            middle = (low + high + 1) // 2
            if self.points[middle] <= point:
                low = middle
            else:
                high = middle - 1
        return low

    def ranges(self, start, end):
        """The columns from start to one less than end as tuples (start, end, choice)."""
        number = self.range_at(start)
        found = []
        while self.points[number + 1] < end:
            found.append((start, self.points[number + 1], self.choices[number]))
            number += 1
            start = self.points[number]
        return [*found, (start, end, self.choices[number])]

    def counts_at(self, number, landed):
        """The counts below a point in the range of this number, those known below where it lands."""
        # A dip has a place in one whole only: those that have theirs here ask for nothing later.
        free = ~self.choices[number]
        known, base = self.counts[number], self.bases[number]
        return [many + abs(landed[choice & free] - base[choice & free]) for choice, many in enumerate(known)]

    def settle(self, later):
        """Works out the counts below all points, by a dict of those below where they land."""
        self.bases = [later[self.landing(point)] for point in self.points]
        self.counts = [[0] * len(self.bases[0])]
        for number, landed in enumerate(self.bases[1:]):
            self.counts.append(self.counts_at(number, landed))


def flips_at(wholes, time):
    """The points of a time at which wholes of dips begin or end: choices by points."""
    flips = {}
    for number, times in enumerate(wholes):
        if time < len(times):
            for point in [edge for ends in times[time] for edge in ends]:
                flips[point] = flips.get(point, 0) ^ (1 << number)
    return flips


def counts_behind_all(point, choices):
    """The counts below a point when all is done: nothing comes to wholes any more."""
    return [point] + [0] * (choices - 1)


def levels_of(folds, grounds, dips):
    """The levels of all times up to the last of these dips, tuples (deeds, dip)."""
    wholes = [wholes_of(dip, folds[:deeds], grounds[:deeds + 1]) for deeds, dip in dips]
    last = max([deeds for deeds, _ in dips])
    # Behind the last dip nothing matters: there stands a fold at the end of all columns, which turns none.
    done = [*folds[:last], (grounds[last][0], True)]
    levels = []
    carried = []
    for time, (fold, ground) in enumerate(zip(done, grounds)):
        level = Level(fold, ground, flips_at(wholes, time), carried)
        levels.append(level)
        carried = [level.landing(point) for point in level.points]
    later = {point: counts_behind_all(point, 1 << len(dips)) for point in carried}
    for level in reversed(levels):
        level.settle(later)
        later = {point: counts for point, counts in zip(level.points, level.counts)}
    return levels


def counts_below(levels, place):
    """How many places below one each choice of the dips takes, every dip of the choice: a list by choices."""
    way = []
    point = place
    for level in levels:
        way.append((level, level.range_at(point)))
        point = level.landing(point)
    counts = counts_behind_all(point, len(levels[0].counts[0]))
    for level, number in reversed(way):
        counts = level.counts_at(number, counts)
    return counts
