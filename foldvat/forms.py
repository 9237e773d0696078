"""The forms of rows of words: what a row tells, and how numbers are written by figures.

What a row tells is a tuple: its first word, then what the words behind it say, numbers as numbers.
"""

from foldvat.dips import SIDES

# Of each first word the words that may stand behind it, a sign for each of them: `n` a number, `s` a side.
FORMS = {
    "strip": ("n",),
    "over": ("n",),
    "under": ("n",),
    "turn": ("",),
    "open": ("",),
    "dip": ("snnn",),
    "columns": ("",),
    "layers": ("n",),
    "spot": ("n",),
    "place": ("nn",),
    "bend": ("n",),
    "bends": ("",),
    "dyes": ("n",),
    "many": ("n",),
    "ahead": ("nn",),
    "nth": ("nn",),
    "marks": ("n", "nn", "nnn"),
    "history": ("",),
    "undo": ("",),
}

# Python reads and writes no more than some thousand figures at once, so it is done in pieces.
PIECE = 60
PIECE_WORTH = 10 ** 60


def is_figures(word):
    """Whether a word is a number as it is written, without noughts ahead."""
    return word.isascii() and word.isdigit() and (word == "0" or not word.startswith("0"))


def number_of(figures):
    """The number that figures write."""
    # Noughts ahead, so that there are whole pieces alone.
    padded = "0" * (-len(figures) % PIECE) + figures
    number = 0
    for at in range(0, len(padded), PIECE):
        number = number * PIECE_WORTH + int(padded[at:at + PIECE])
    return number


def figures_of(number):
    """The figures that write a number from 0 on."""
    pieces = []
    while number >= PIECE_WORTH:
        number, rest = divmod(number, PIECE_WORTH)
        pieces.append(str(rest).zfill(PIECE))
    pieces.append(str(number))
    return "".join(reversed(pieces))


def part_of(kind, word):
    """What a word says where one of this kind is due, or None."""
    if kind == "s":
        return word if word in SIDES else None
    return number_of(word) if is_figures(word) else None


def told_by(row):
    """What a thing, anything, tells as a row, or None where it has no form."""
    if type(row) is not str:
        return None
    word, *rest = row.split(" ")
    for form in FORMS.get(word, ()):
        if len(form) == len(rest):
            parts = [part_of(kind, part) for kind, part in zip(form, rest)]
            return None if None in parts else (word, *parts)
    return None
