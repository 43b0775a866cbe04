"""Texts of grounds and tables, written and read."""

from alikeclash.errors import InvalidRow, InvalidText
from alikeclash.helpers import is_figures, is_figures_below, need, pieces_of, read_count
from alikeclash.tables import first_misfit, is_table


def ground_text(ground):
    """The text of the ground."""
    size, dependences = ground
    return "\n".join([str(size)] + [dependence_line(here, there) for here, there in dependences])


def read_ground(text):
    """The ground with this text."""
    need(isinstance(text, str), "text")
    lines = text.split("\n")
    size = read_count(lines[0])
    dependences = set()
    for line in range(1, len(lines)):
        dependences.add(read_dependence(size, line, lines[line]))
    return size, tuple(sorted(dependences))


def table_text(ground, table):
    """The text of the table."""
    need(is_table(ground, table), "table")
    return "\n".join([str(len(table))] + [numbers_line(row) for row in table])


def read_table(ground, text):
    """The table of the ground with this text."""
    need(isinstance(text, str), "text")
    lines = text.split("\n")
    many = read_count(lines[0])
    rows = [read_row(ground[0], line, lines[line]) for line in range(1, min(len(lines), many + 1))]
    if len(lines) != many + 1:
        raise InvalidText(min(len(lines), many + 1), 0)
    misfit = first_misfit(ground, rows)
    if misfit is not None:
        raise InvalidRow(misfit)
    return tuple(rows)


def numbers_line(numbers):
    """The numbers with blanks between them."""
    return " ".join([str(number) for number in numbers])


def dependence_line(here, there):
    """The line of a dependence."""
    return " ".join([str(column) for column in here] + [">"] + [str(column) for column in there])


def read_dependence(size, line, text):
    """The dependence with this line, the number of which is line."""
    pieces = pieces_of(text)
    sides = [[], []]
    side = 0
    for field, piece in enumerate(pieces):
        if piece == ">" and side == 0:
            side = 1
        elif is_next_column(size, sides[side], piece):
            sides[side].append(int(piece))
        else:
            raise InvalidText(line, field)
    if side == 0:
        raise InvalidText(line, len(pieces))
    return tuple(sides[0]), tuple(sides[1])


def is_next_column(size, columns, piece):
    """Whether the piece is a column that may stand behind the columns."""
    return is_figures_below(piece, size) and (not columns or int(piece) > columns[-1])


def read_row(size, line, text):
    """The row with this line, the number of which is line."""
    pieces = pieces_of(text)
    for field, piece in enumerate(pieces):
        if field == size or not is_figures(piece):
            raise InvalidText(line, field)
    if len(pieces) < size:
        raise InvalidText(line, len(pieces))
    return tuple([int(piece) for piece in pieces])
