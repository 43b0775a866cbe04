"""Events and logs read from their lines."""

from alikeclash.errors import InvalidText
from alikeclash.helpers import is_figures, need

# What stands for a number in the form of a line.
NUMBER = ""


def read_event(ground, text):
    """The event with this line."""
    need(isinstance(text, str), "text")
    return read_line(ground[0], 0, text)


def read_log(ground, text):
    """The log with this text."""
    need(isinstance(text, str), "text")
    if text == "":
        return ()
    return tuple([read_line(ground[0], line, told) for line, told in enumerate(text.split("\n"))])


def read_line(size, line, text):
    """The event with this line, the number of which is line."""
    pieces = text.split(" ")
    forms = forms_behind(size)
    if pieces[0] not in forms:
        raise InvalidText(line, 0)
    form = forms[pieces[0]]
    for field in range(1, len(pieces)):
        if field > len(form) or not fits_form(form[field - 1], pieces[field]):
            raise InvalidText(line, field)
    if len(pieces) <= len(form):
        raise InvalidText(line, len(pieces))
    numbers = [int(piece) for part, piece in zip(form, pieces[1:]) if part == NUMBER]
    if pieces[0] == "come":
        return "come", tuple(numbers[:-1]), numbers[-1]
    return (pieces[0],) + tuple(numbers)


def forms_behind(size):
    """For each first piece of a line what must stand behind it."""
    return {
        "come": [NUMBER] * size + ["with", NUMBER],
        "leave": [NUMBER],
        "weigh": [NUMBER, "as", NUMBER],
    }


def fits_form(part, piece):
    """Whether the piece may stand where the form has this part."""
    if part == NUMBER:
        return is_figures(piece)
    return piece == part
