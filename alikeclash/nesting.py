"""Heaviest quarrels, found along the steps of a chain.

Rows that are alike in the state ahead of a step fall into parts by the lots of the step.
Rows of two parts get a word from the step, and the steps behind it decide within a part.
"""

from alikeclash.pricing import Pricing
from alikeclash.tables import entries_at


def heaviest_quarrel(chain, table, weights):
    """A quarrel that weighs the load, by the rule that the chain says."""
    return heaviest_group(chain, table, weights, tuple(range(len(table))))


def quarrel_with(chain, table, weights, row):
    """A heaviest one of the quarrels that have the row."""
    # With so much more weight of the row no quarrel without it is a heaviest one.
    raised = list(weights)
    raised[row] += sum(weights) + 1
    return heaviest_quarrel(chain, table, tuple(raised))


def heaviest_group(steps, table, weights, rows):
    """A heaviest quarrel among the rows, which are alike in the state ahead of the steps."""
    if len(rows) <= 1:
        return rows
    step = steps[0]
    if step[0] == "two":
        return heaviest_by_cells(steps, table, weights, rows)
    groups = [heaviest_group(steps[1:], table, weights, part) for part in parts_at(table, step, rows)]
    return joined(groups) if step[-1] else heaviest_one(weights, groups)


def heaviest_by_cells(steps, table, weights, rows):
    """The same where the first step is a step "two"."""
    step = steps[0]
    cells = []
    for left, right, part in cells_at(table, step, rows):
        cells.append((left, right, heaviest_group(steps[1:], table, weights, part)))
    if step[-1]:
        return joined(heaviest_apart(weights, cells))
    return heaviest_one(weights, [line_of(cells, side, cell[side]) for side in (0, 1) for cell in cells])


def line_of(cells, side, number):
    """The group of the rows of all cells that have this left end, or for side 1 this right end."""
    return joined([cell[2] for cell in cells if cell[side] == number])


def heaviest_apart(weights, cells):
    """The groups of the heaviest cells of which no two share a left or a right end."""
    filled = [(left, right, weight_of(weights, group), group) for left, right, group in cells]
    filled = [cell for cell in filled if cell[2] > 0]
    pricing = Pricing([cell[:3] for cell in filled])
    pricing.match_all()
    return [filled[tie][3] for tie in pricing.matching()]


def weight_of(weights, group):
    """The weight of the group."""
    return sum([weights[row] for row in group])


def joined(groups):
    """The group of the rows of all the groups."""
    return tuple(sorted([row for group in groups for row in group]))


def heaviest_one(weights, groups):
    """The heaviest of the groups."""
    heaviest = groups[0]
    for group in groups:
        if weight_of(weights, group) > weight_of(weights, heaviest):
            heaviest = group
    return heaviest


def alike_parts(table, lot, rows):
    """The groups, ascending, into which alikeness in all columns of the lot parts the rows."""
    parts = {}
    for row in rows:
        parts.setdefault(entries_at(table[row], lot), []).append(row)
    return [tuple(part) for part in parts.values()]


def parts_at(table, step, rows):
    """The groups into which the step parts rows that are alike in the state ahead of it."""
    if step[0] == "end":
        return [(row,) for row in rows]
    if step[0] == "one":
        return alike_parts(table, step[1], rows)
    return alike_parts(table, tuple(sorted(set(step[1]) | set(step[2]))), rows)


def cells_at(table, step, rows):
    """The triples (left, right, part) of the parts by a step "two", ascending.

    Left is the number of the part that the first lot alone makes of the rows, right of the other lot.
    """
    lefts = part_numbers(table, step[1], rows)
    rights = part_numbers(table, step[2], rows)
    return sorted([(lefts[part[0]], rights[part[0]], part) for part in parts_at(table, step, rows)])


def part_numbers(table, lot, rows):
    """For each row the number of its part by alikeness in the lot."""
    return {row: k for k, part in enumerate(alike_parts(table, lot, rows)) for row in part}
