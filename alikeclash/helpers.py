"""What many modules need: refusing a parameter, and the pieces of lines."""

from alikeclash.errors import InvalidText, NotUsable

FIGURES = "0123456789"


def need(holds, word):
    """Refuse the parameter with the name word unless it is as stated."""
    if not holds:
        raise NotUsable(word, -1)


def is_tuple_of(many, thing):
    """Whether thing is a tuple of many values."""
    return isinstance(thing, tuple) and len(thing) == many


def ascends(things):
    """Whether the things, which Python can sort, ascend without duplicates."""
    return all([things[k] < things[k + 1] for k in range(len(things) - 1)])


def pieces_of(line):
    """The pieces into which the blanks of a line part it; the empty line has none."""
    if line == "":
        return []
    return line.split(" ")


def is_figures(piece):
    """Whether the piece is a number in decimal figures without leading zeros."""
    if piece == "" or not all([sign in FIGURES for sign in piece]):
        return False
    return piece == "0" or piece[0] != "0"


def is_figures_below(piece, limit):
    """Whether the piece is a number that is below the limit."""
    return is_figures(piece) and int(piece) < limit


def read_count(line):
    """The number that is all of line 0 of a text."""
    pieces = pieces_of(line)
    if not pieces or not is_figures(pieces[0]):
        raise InvalidText(0, 0)
    if len(pieces) > 1:
        raise InvalidText(0, 1)
    return int(pieces[0])
