"""Texts of hours, written and read."""

from alikeclash.errors import InvalidText
from alikeclash.helpers import is_figures, need, pieces_of
from alikeclash.hourkinds import are_hours
from alikeclash.kinds import is_quotient
from alikeclash.tablelines import numbers_line


def hours_text(hours_told):
    """The text of the hours, a line for each piece."""
    need(are_hours(hours_told), "hours_told")
    return "\n".join([f"{length[0]}/{length[1]} {numbers_line(group)}" for length, group in hours_told])


def read_hours(text):
    """The hours with this text."""
    need(isinstance(text, str), "text")
    if text == "":
        return ()
    return tuple([read_piece(line, told) for line, told in enumerate(text.split("\n"))])


def read_piece(line, text):
    """The piece of hours with this line, the number of which is line."""
    pieces = pieces_of(text)
    if not pieces or not is_length_piece(pieces[0]):
        raise InvalidText(line, 0)
    group = []
    for field in range(1, len(pieces)):
        if not is_figures(pieces[field]) or (group and int(pieces[field]) <= group[-1]):
            raise InvalidText(line, field)
        group.append(int(pieces[field]))
    if not group:
        raise InvalidText(line, 1)
    return length_told(pieces[0]), tuple(group)


def is_length_piece(piece):
    """Whether the piece is top/bottom of a quotient above 0."""
    parts = piece.split("/")
    if len(parts) != 2 or not all([is_figures(part) for part in parts]):
        return False
    return is_quotient(length_told(piece)) and parts[0] != "0"


def length_told(piece):
    """The pair of the numbers ahead of the stroke and behind it."""
    top, bottom = piece.split("/")
    return int(top), int(bottom)
