"""Tables, and the likenesses of their rows."""

from alikeclash.helpers import is_tuple_of, need
from alikeclash.kinds import is_number


def is_table(ground, thing):
    """Whether thing is a table of the ground."""
    return are_rows(ground, thing) and first_misfit(ground, thing) is None


def likeness_of(ground, table, one, another):
    """The likeness of two rows."""
    need(is_table(ground, table), "table")
    need(is_row_number(table, one), "one")
    need(is_row_number(table, another) and another != one, "another")
    return alike_columns(table[one], table[another])


def likenesses(ground, table):
    """The triples (i, j, lot) of all rows i below j and their likeness, ascending."""
    need(is_table(ground, table), "table")
    return tuple(likeness_triples(table))


def first_unkept(ground, rows):
    """The triple (dependence, i, j) of the first dependence and rows that do not keep it, or None."""
    need(are_rows(ground, rows) and rows != () and len(set(rows)) == len(rows), "rows")
    triples = likeness_triples(rows)
    for here, there in ground[1]:
        for i, j, lot in triples:
            if are_in(lot, here) and not are_in(lot, there):
                return (here, there), i, j
    return None


def is_row(ground, thing):
    """Whether thing is a row of the ground."""
    return is_tuple_of(ground[0], thing) and all([is_number(part) for part in thing])


def are_rows(ground, thing):
    """Whether thing is a tuple of rows of the ground, possibly equal ones."""
    return isinstance(thing, tuple) and all([is_row(ground, row) for row in thing])


def is_row_number(table, thing):
    """Whether thing is the number of a row of the table."""
    return is_number(thing) and thing < len(table)


def alike_columns(row, other):
    """The lot of the columns in which the rows are alike."""
    return tuple([column for column in range(len(row)) if row[column] == other[column]])


def are_in(lot, columns):
    """Whether the lot has all the columns."""
    return all([column in lot for column in columns])


def likeness_triples(rows):
    """The list of the triples (i, j, lot) of all rows i below j and their likeness, ascending."""
    many = len(rows)
    return [(i, j, alike_columns(rows[i], rows[j])) for i in range(many) for j in range(i + 1, many)]


def entries_at(row, columns):
    """The numbers of the row in the columns."""
    return tuple([row[column] for column in columns])


def first_misfit(ground, rows):
    """The first row that equals one ahead of it or does not keep a dependence with one, or None."""
    ahead = set()
    # What the first row with these numbers in here has in there binds all later ones.
    bound = {}
    for number, row in enumerate(rows):
        if row in ahead:
            return number
        ahead.add(row)
        for here, there in ground[1]:
            key = (here, there, entries_at(row, here))
            if bound.setdefault(key, entries_at(row, there)) != entries_at(row, there):
                return number
    return None
