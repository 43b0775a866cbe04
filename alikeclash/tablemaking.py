"""Tables made from likenesses or from other tables."""

from alikeclash.helpers import need
from alikeclash.kinds import is_group, is_number, is_sequence
from alikeclash.likechecker import is_likeness_list
from alikeclash.tables import is_table


def table_of(ground, many, likeness_list):
    """The table of many rows in which each entry is the least row that is told alike there."""
    need(is_number(many), "many")
    need(is_likeness_list(ground, many, likeness_list), "likeness_list")
    told = {(i, j): lot for i, j, lot in likeness_list}
    return tuple([tuple([least_alike(told, row, column) for column in range(ground[0])]) for row in range(many)])


def renamed_table(ground, table, sequence):
    """The table in which entry i of each row stands at place sequence[i]."""
    need(is_table(ground, table), "table")
    need(is_sequence(ground[0], sequence), "sequence")
    return tuple([renamed_row(sequence, row) for row in table])


def rows_moved(ground, table, sequence):
    """The table whose row k is row sequence[k] of the old one."""
    need(is_table(ground, table), "table")
    need(is_sequence(len(table), sequence), "sequence")
    return tuple([table[row] for row in sequence])


def part_of(ground, table, group):
    """The rows of the group."""
    need(is_table(ground, table), "table")
    need(is_group(len(table), group), "group")
    return tuple([table[row] for row in group])


def likes_told(many, lots):
    """The likeness list of many rows with these lots, one for each pair of rows, ascending."""
    pairs = [(i, j) for i in range(many) for j in range(i + 1, many)]
    return tuple([(i, j, lot) for (i, j), lot in zip(pairs, lots)])


def least_alike(told, row, column):
    """The least row that is told alike with row in the column, or row itself."""
    for ahead in range(row):
        if column in told[(ahead, row)]:
            return ahead
    return row


def renamed_row(sequence, row):
    """The row with entry i at place sequence[i]."""
    renamed = list(row)
    for column, entry in zip(sequence, row):
        renamed[column] = entry
    return tuple(renamed)
