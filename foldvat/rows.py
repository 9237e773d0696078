"""Rows of deeds done on a strip, and how many layers lie at each column behind them.

A ground tells what lies there at one time: the tuple (width, steps) of how many columns there are
and a list of tuples (column, change), rising: at this column lie so many layers more (or fewer,
below 0) than at the one ahead of it. Each deed adds one step at most, so that a ground stays short
however long the strip is.

A turn moves all as a fold at line 0 does that nothing meets: within the program it is one.
"""

from foldvat.errors import NoColumn, NoNumber, NoPlaces, NoRow

MOST_PLACES = 10 ** 30
MOST_DEEDS = 40
FOLDS = ("over", "under")


def is_from(thing, least):
    """Whether a thing, anything, is a whole number from least on."""
    # Asked of the exact class: a truth is an int too, and an own class may compare as it likes.
    return type(thing) is int and thing >= least


def is_among(thing, least, most):
    """Whether a thing, anything, is a whole number from least to most."""
    return is_from(thing, least) and thing <= most


def is_listing(thing):
    """Whether a thing, anything, is a list or a tuple."""
    # No `in`: a class may compare as it likes, too.
    return type(thing) is list or type(thing) is tuple


def check_places(places):
    """Refuses what is no number of places."""
    if not is_among(places, 1, MOST_PLACES):
        raise NoPlaces("a strip has 1 to 10 ** 30 places")


def check_column(ground, column):
    """Refuses what is no column of this ground."""
    if not is_among(column, 0, ground[0] - 1):
        raise NoColumn("nothing lies at such a column")


def check_number(number, most):
    """Refuses what is no number from 0 to most."""
    if not is_among(number, 0, most):
        raise NoNumber("there is no such number here")


def check_nth(number):
    """Refuses what can't be asked for as the so-manieth, from 0 on."""
    if not is_from(number, 0):
        raise NoNumber("the so-manieth is a whole number from 0 on")


def shift_of(ground, line):
    """By how many columns all is moved behind a fold at this line, so that the least column is 0."""
    return max(0, ground[0] - 2 * line)


def layers_at(ground, column):
    """How many layers lie at a column, none where it lies beyond the ground."""
    width, steps = ground
    if not 0 <= column < width:
        return 0
    return sum([change for at, change in steps if at <= column])


def ground_behind(ground, line):
    """The ground behind a fold at this line, or behind a turn where it is 0."""
    width, steps = ground
    shift = shift_of(ground, line)
    last = (width, -layers_at(ground, width - 1))
    changes = {}
    # At the line itself all ends now, where the width tells it: no step is kept there.
    for at, change in [*steps, last]:
        if at < line:
            new = at + shift
            changes[new] = changes.get(new, 0) + change
        elif at > line:
            new = 2 * line - at + shift
            changes[new] = changes.get(new, 0) - change
    left = [(at, changes[at]) for at in sorted(changes) if changes[at] != 0]
    return (max(line, width - line), left)


def is_deed(thing, width):
    """Whether a thing, anything, is a deed that so many columns let."""
    if not is_listing(thing) or len(thing) == 0:
        return False
    word = thing[0]
    if type(word) is not str:
        return False
    if word == "turn":
        return len(thing) == 1
    return word in FOLDS and len(thing) == 2 and is_among(thing[1], 1, width - 1)


def line_of(deed):
    """The line at which a deed folds, 0 of a turn."""
    return 0 if deed[0] == "turn" else deed[1]


def folds_of(row):
    """The deeds of a row as tuples (line, whether what is turned comes on top)."""
    return [(line_of(deed), deed[0] != "under") for deed in row]


def grounds_or_none(places, thing):
    """The grounds behind none, one .. all deeds of a thing, or None where it is no row."""
    if not is_listing(thing) or len(thing) > MOST_DEEDS:
        return None
    found = [(places, [(0, 1)])]
    for deed in thing:
        ground = found[-1]
        if not is_deed(deed, ground[0]):
            return None
        found.append(ground_behind(ground, line_of(deed)))
    return found


def grounds_of(places, row):
    """The grounds behind none, one .. all deeds of a row; refuses what is none."""
    check_places(places)
    found = grounds_or_none(places, row)
    if found is None:
        raise NoRow("this is no row of such a strip")
    return found


def stretches_of(ground):
    """The stretches of a ground: from which column on lie how many layers."""
    height = 0
    found = []
    for column, change in ground[1]:
        height += change
        found.append((column, height))
    return found


def is_row(places, thing):
    """Whether a thing, anything, is a row of a strip of so many places."""
    check_places(places)
    return grounds_or_none(places, thing) is not None


def columns(places, row):
    """How many columns there are behind a row."""
    return grounds_of(places, row)[-1][0]


def layers(places, row, column):
    """How many layers lie at a column behind a row."""
    ground = grounds_of(places, row)[-1]
    check_column(ground, column)
    return layers_at(ground, column)


def stretches(places, row):
    """From which column on, up to the next one told, lie how many layers: tuples (column, layers)."""
    return stretches_of(grounds_of(places, row)[-1])


def by_layers(places, row):
    """How many columns have so many layers: tuples (layers, columns), rising."""
    ground = grounds_of(places, row)[-1]
    told = stretches_of(ground)
    ends = [column for column, _ in told[1:]] + [ground[0]]
    many = {}
    for (column, height), end in zip(told, ends):
        many[height] = many.get(height, 0) + end - column
    return sorted(many.items())
