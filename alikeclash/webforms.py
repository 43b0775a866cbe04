"""Forms in the web of the rows that clash.

Inside, groups of rows are masks as those of lots: bit number r tells of row r.
"""

from alikeclash.clashes import clash_masks, need_rule_and_table
from alikeclash.lots import lot_of
from alikeclash.tables import likeness_triples


def parts_of(ground, rule, table):
    """The set of the groups of rows that can be reached from one another by clashes."""
    need_rule_and_table(ground, rule, table)
    clashing = clash_masks(rule, table)
    return tuple(sorted(set([lot_of(reached_from(clashing, row)) for row in range(len(table))])))


def path_in(ground, rule, table):
    """Four rows (a, b, c, d) of which just a and b, b and c, c and d clash, or None."""
    need_rule_and_table(ground, rule, table)
    clashing = clash_masks(rule, table)
    for b in range(len(table)):
        for c in lot_of(clashing[b]):
            # Row b, which clashes with a, is no end; and c taken for a leaves none.
            for a in lot_of(clashing[b] & ~clashing[c]):
                ends = lot_of(clashing[c] & ~clashing[b] & ~clashing[a])
                if ends != ():
                    return a, b, c, ends[0]
    return None


def claw_in(ground, rule, table):
    """Four rows (middle, a, b, c) of which just middle and each other one clash, or None."""
    need_rule_and_table(ground, rule, table)
    clashing = clash_masks(rule, table)
    for middle in range(len(table)):
        for a in lot_of(clashing[middle]):
            left = clashing[middle] & ~clashing[a] & ~(1 << a)
            for b in lot_of(left):
                ends = lot_of(left & ~clashing[b] & ~(1 << b))
                if ends != ():
                    return middle, a, b, ends[0]
    return None


def bend_in(ground, rule, table):
    """Three rows (r, s, t) of which just r and s, s and t clash, or None."""
    need_rule_and_table(ground, rule, table)
    clashing = clash_masks(rule, table)
    for s in range(len(table)):
        for r in lot_of(clashing[s]):
            ends = lot_of(clashing[s] & ~clashing[r] & ~(1 << r))
            if ends != ():
                return r, s, ends[0]
    return None


def ring_word(ground, rule, table):
    """The word of which the table, as it stands, is a ring, or None."""
    need_rule_and_table(ground, rule, table)
    if len(table) < 5:
        return None
    triples = likeness_triples(table)
    # The first triple tells of rows 0 and 1, which are neighbours in a ring.
    word = triples[0][2] in rule
    last = len(table) - 1
    for i, j, lot in triples:
        beside = j == i + 1 or (i == 0 and j == last)
        if (lot in rule) != (word if beside else not word):
            return None
    return word


def reached_from(clashing, row):
    """The mask of the part of the row."""
    reached = 1 << row
    fresh = reached
    while fresh != 0:
        beside = 0
        for other in lot_of(fresh):
            beside |= clashing[other]
        fresh = beside & ~reached
        reached |= fresh
    return reached
