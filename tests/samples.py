"""Grounds, rules and tables for the tests, and plain reckonings to compare with.

The reckonings follow the definitions word by word, over Python's own sets.
"""

from fractions import Fraction
from functools import lru_cache
from itertools import combinations, product
from random import Random

from alikeclash.errors import InvalidPaper

FREE = (3, ())
KEPT = (3, (((1,), (2,)),))
LESSON = ((0,), (0, 1), (0, 2), (1,), (1, 2))
PAIRS = ((0, 1), (0, 2), (1, 2))
MUX = ((0,), (0, 2), (1, 2))
DAYS = ((0, 1), (0, 2))
LINE = ((0, 0, 0), (0, 1, 1), (1, 1, 2), (1, 2, 3))

EMPTY = (0, ())
EMPTY_HELD = (0, (((), ()),))
ONE = (1, ())
WHOLE = (2, (((), (0, 1)),))
BASED = (3, (((), (1,)), ((0,), (2,))))
CHAINED = (4, (((0,), (1,)), ((1,), (2,)), ((2, 3), (0,))))
WIDE = (8, ())
LARGE = (8, tuple(((k,), ((k + 1) % 8,)) for k in range(4)) + tuple(((k, k + 1), (k + 2,)) for k in range(4, 6)))
GROUNDS = (EMPTY, EMPTY_HELD, ONE, WHOLE, FREE, KEPT, BASED, CHAINED)

DEEP = 0
for _ in range(29):
    DEEP = (DEEP,)

# Values of all kinds, of which a function that asks for one kind refuses most.
ODD = (
    True, False, None, -1, 10 ** 60, "", "0", "same", "rounds", (), [], [()], ((),), [0], [1], (0,), (True,),
    (False,), (None,), ("",), (0, 0), (1, 0), (0, 1), (0, True), (False, 1), (-1,), (0, (0,)), ((0,), (0,)), ("same", True),
    ("always",), ["always"], ("end", 1), (("end", 1),), [("end", True)], (3, ()), (True, ()), (3, []), [3, ()],
    ((0, 0, 0),), ((0, 0, True),), [[0, 0, 0]], DEEP,
)


def subsets(things):
    """All tuples of some of the things, in their sequence."""
    things = tuple(things)
    return [part for many in range(len(things) + 1) for part in combinations(things, many)]


def all_lots(size):
    return sorted(subsets(range(size)))


def closed(ground, lot):
    return all(set(there) <= set(lot) for here, there in ground[1] if set(here) <= set(lot))


@lru_cache(maxsize=None)
def closed_ones(ground):
    return [lot for lot in all_lots(ground[0]) if closed(ground, lot)]


@lru_cache(maxsize=None)
def open_ones(ground):
    """The closed lots but the whole one."""
    return [lot for lot in closed_ones(ground) if len(lot) < ground[0]]


def closing(ground, lot):
    return closing_in(ground, tuple(sorted(lot)))


@lru_cache(maxsize=None)
def closing_in(ground, lot):
    return min((held for held in closed_ones(ground) if set(lot) <= set(held)), key=len)


def meet(*lots):
    return tuple(sorted(set(lots[0]).intersection(*lots[1:])))


def holds(lot, inner):
    return set(inner) <= set(lot)


def least(lots):
    return [lot for lot in lots if not any(other != lot and holds(lot, other) for other in lots)]


def all_rules(ground):
    return subsets(open_ones(ground))


def likeness(row, other):
    return tuple(column for column in range(len(row)) if row[column] == other[column])


def is_plain_table(ground, rows):
    """Whether the rows of the ground are a table of it."""
    for row, other in combinations(rows, 2):
        if row == other or not closed(ground, likeness(row, other)):
            return False
    return True


def clashing(rule, table):
    """The pairs of rows that clash, as a set."""
    pairs = combinations(range(len(table)), 2)
    return {(i, j) for i, j in pairs if likeness(table[i], table[j]) in rule}


def small_tables(ground, many, numbers=3):
    """All tables of so many rows with small numbers in them."""
    rows = list(product(range(numbers), repeat=ground[0]))
    return [table for table in product(rows, repeat=many) if is_plain_table(ground, table)]


def random_ground(chance, size, many):
    """A ground of the size with at most so many dependences."""
    dependences = set()
    for _ in range(many):
        here = chance.sample(range(size), chance.randint(0, size))
        there = chance.sample(range(size), chance.randint(0, min(2, size)))
        dependences.add((tuple(sorted(here)), tuple(sorted(there))))
    return size, tuple(sorted(dependences))


def random_rule(chance, ground):
    share = chance.random()
    return tuple(lot for lot in open_ones(ground) if chance.random() < share)


def random_table(chance, ground, tries, numbers=4):
    """A table of at most so many rows, with so many different numbers in it."""
    table = []
    for _ in range(tries):
        row = tuple(chance.randint(0, numbers - 1) for _ in range(ground[0]))
        if all(likeness(row, other) in open_ones(ground) for other in table):
            table.append(row)
    return tuple(table)


def chance_of(number):
    """A source of chances that is the same in each run."""
    return Random(number)


def is_triple(ground, rule, triple):
    """Whether the triple is one of the rule, as [9] tells."""
    lots = triple[1:]
    if type(triple) is not tuple or len(triple) != 4 or not all(lot in open_ones(ground) for lot in lots):
        return False
    a, b, c = lots
    word = a in rule
    if triple[0] == "three":
        others = [meet(a, b), meet(a, c), meet(b, c), meet(a, b, c)]
        return a < b < c and all((lot in rule) == word for lot in lots) and all((lot in rule) != word for lot in others)
    if triple[0] != "two" or not holds(c, a) or a == c or holds(c, b) or (b in rule) != word:
        return False
    if any((lot in rule) == word for lot in (c, meet(a, b), meet(b, c))):
        return False
    third = closing(ground, set(a) | set(meet(b, c)))
    return third == c or (third in rule) == word


@lru_cache(maxsize=None)
def steps_from(ground, state):
    """All steps that a chain may take at the state, with the state behind each."""
    steps = []
    over = [lot for lot in open_ones(ground) if holds(lot, state) and lot != state]
    for word in (False, True):
        steps.append((("end", word), None))
        steps.extend((("one", lot, word), lot) for lot in over)
        for lot, other in combinations(over, 2):
            if meet(lot, other) == state:
                steps.append((("two", lot, other, word), closing(ground, lot + other)))
    return steps


@lru_cache(maxsize=None)
def all_chains(ground, state=None):
    """All chains of the ground, from the state on."""
    state = closing(ground, ()) if state is None else state
    if len(state) == ground[0]:
        return [()]
    chains = []
    for step, behind in steps_from(ground, state):
        if behind is None:
            chains.append((step,))
        else:
            chains.extend((step,) + rest for rest in all_chains(ground, behind))
    return chains


def said_by(chain, lot):
    """The word that the chain says to the lot, as [8] tells, and the number of the step that decides."""
    for k, step in enumerate(chain):
        if step[0] == "end":
            return step[1], k
        if step[0] == "one" and not holds(lot, step[1]):
            return step[2], k
        if step[0] == "two":
            within = [holds(lot, step[1]), holds(lot, step[2])]
            if not all(within):
                return (not step[3] if any(within) else step[3]), k
    raise AssertionError("no step decides")


def plain(chain):
    for step, behind in zip(chain, chain[1:]):
        if step[0] == "one" and behind[-1] == step[-1] and behind[0] != "two":
            return False
    return True


def told_rule_of(ground, chain):
    """The rule that the chain says, as [8] tells."""
    return tuple(lot for lot in open_ones(ground) if said_by(chain, lot)[0])


@lru_cache(maxsize=None)
def chain_rules(ground):
    """All rules of the ground that have a chain, each with its plain one."""
    return {told_rule_of(ground, chain): chain for chain in all_chains(ground) if plain(chain)}


def random_chain(chance, ground):
    """Any chain of the ground, made step by step."""
    state, steps = closing(ground, ()), []
    while state is not None and len(state) < ground[0]:
        choices = list(steps_from(ground, state))
        twos = [choice for choice in choices if choice[0][0] == "two"]
        step, state = chance.choice(twos if twos and chance.random() < 0.5 else choices)
        steps.append(step)
    return tuple(steps)


def nearly_chained(chance, ground, many):
    """A rule that has a chain, or had one before some words were turned."""
    rule = set(told_rule_of(ground, random_chain(chance, ground)))
    for _ in range(many if open_ones(ground) else 0):
        rule ^= {chance.choice(open_ones(ground))}
    return tuple(sorted(rule))


def slow_groups(rule, table, word):
    """All groups each two rows of which clash, or for the word False do not."""
    pairs = clashing(rule, table)
    return [
        group for group in subsets(range(len(table)))
        if all((pair in pairs) == word for pair in combinations(group, 2))
    ]


def slow_heaviest(rule, table, weights, word):
    """The load, or for the word False the worth, as [7] tells."""
    return max(sum(weights[row] for row in group) for group in slow_groups(rule, table, word))


def slow_fewest(rule, table, word, most=None):
    """The least number of quarrels, or for False of peaces, of at most so many rows, for all rows."""
    groups = [set(group) for group in slow_groups(rule, table, word) if most is None or len(group) <= most]

    def fewest(rows):
        if not rows:
            return 0
        first = min(rows)
        return 1 + min(found(rows - group) for group in groups if first in group)

    found = lru_cache(maxsize=None)(lambda rows: fewest(frozenset(rows)))
    return found(frozenset(range(len(table))))


def chained_tables(number, many=3, most=9):
    """Quadruples of grounds, rules, their chains and tables of at most so many rows."""
    chance = chance_of(number)
    grounds = (FREE, KEPT, CHAINED, (4, ()), (5, ()), (4, (((0, 1), (2,)),)), (5, (((2,), (4,)),)))
    for ground in grounds * many + (EMPTY, EMPTY_HELD, WHOLE, ONE, BASED):
        chain = random_chain(chance, ground)
        for numbers in (2, 3, 4):
            table = random_table(chance, ground, 6 * most, numbers)[:most]
            yield ground, told_rule_of(ground, chain), chain, table[:chance.choice((most, most, 4, 1, 0))]


def some_weights(chance, table):
    """Weights of the table: all 0, alike, small, large, or some 0."""
    return (
        (0,) * len(table), (7,) * len(table), tuple(chance.randint(0, 4) for _ in table),
        tuple(10 ** 12 - chance.randint(0, 2) for _ in table), tuple(chance.choice((0, 5)) for _ in table),
    )


def fast_heaviest(pairs, weights):
    """The greatest weight of rows each two of which are a pair, also for many rows."""
    beside = [0] * len(weights)
    for i, j in pairs:
        beside[i] |= 1 << j
        beside[j] |= 1 << i

    def bound(rows):
        """At least the weight: rows without pairs among them give one row each."""
        total = 0
        while rows:
            free, most = rows, 0
            while free:
                row = free.bit_length() - 1
                free &= ~(1 << row) & ~beside[row]
                rows &= ~(1 << row)
                most = max(most, weights[row])
            total += most
        return total

    def search(rows, weight, best):
        best = max(best, weight)
        while rows and weight + bound(rows) > best:
            row = rows.bit_length() - 1
            rows &= ~(1 << row)
            best = search(rows & beside[row], weight + weights[row], best)
        return best

    return search((1 << len(weights)) - 1, 0, 0)


def forty_rows(number, many=4):
    """Quadruples of grounds, rules, pairs that clash and tables of forty rows."""
    chance = chance_of(number)
    grounds = ((3, ()), (5, ()), (4, (((0,), (1,)),)), (5, (((0, 1), (2,)), ((3,), (4,)))))
    for ground in grounds * many:
        rule = told_rule_of(ground, random_chain(chance, ground))
        table = random_table(chance, ground, 300, chance.choice((4, 7, 12)))[:40]
        yield ground, rule, clashing(rule, table), table


def fault_of(checker, *told):
    """What a checker returns, or the word and the place of its fault."""
    try:
        return checker(*told)
    except InvalidPaper as fault:
        return fault.word, fault.at


def stands(rule, table, group, word):
    """Whether each two rows of the group clash, or for the word False no two of them."""
    pairs = clashing(rule, table)
    return all((pair in pairs) == word for pair in combinations(group, 2))


def is_group(many, thing):
    """Whether any value is an ascending tuple of numbers below many."""
    if type(thing) is not tuple or any(type(row) is not int or not 0 <= row < many for row in thing):
        return False
    return list(thing) == sorted(set(thing))


def given(pieces, row):
    """What the pieces give the row."""
    return sum(length for length, group in pieces if row in group)


def slow_piece_fault(rule, table, k, piece, word, is_length):
    """The fault of the k-th piece of a plan, or None."""
    if type(piece) is not tuple or len(piece) != 2 or not is_length(piece[0]):
        return "piece", k
    if not is_group(len(table), piece[1]) or piece[1] == ():
        return "piece", k
    return None if stands(rule, table, piece[1], word) else ("clash", k)


def is_length(thing):
    return type(thing) is int and thing > 0


def slow_plan_fault(rule, table, weights, pieces, word, rooms=None):
    """The first fault of a plan of rounds, or for the word True of cover, as [67] and [70] tell; or None."""
    for k, piece in enumerate(pieces):
        fault = slow_piece_fault(rule, table, k, piece, word, is_length)
        if fault:
            return fault
        if rooms is not None and len(piece[1]) > rooms:
            return "rooms", k
    for row in range(len(table)):
        if given(pieces, row) != weights[row]:
            return "given", row
    return None


def spoilt(chance, thing):
    """The value with one thing in it replaced, left out, told twice or moved."""
    if type(thing) is tuple and thing and chance.random() < 0.8:
        at = chance.randrange(len(thing))
        kind = chance.randrange(9)
        if kind < 5:
            return thing[:at] + (spoilt(chance, thing[at]),) + thing[at + 1:]
        if kind == 5:
            return thing[:at] + thing[at + 1:]
        if kind == 6:
            return thing[:at] + thing[at:at + 1] + thing[at:]
        if kind == 7:
            return thing[at:] + thing[:at]
        return list(thing)
    if type(thing) is int and chance.random() < 0.7:
        return thing + chance.choice((-1, 1, 1))
    return chance.choice((True, False, None, 0, 1, 2, 3, -1, "rounds", "cover", "blocked", (), (0,), (1,), (0, 1), [0], 10 ** 60))


def quotient(value):
    """The pair of a Fraction."""
    return value.numerator, value.denominator


def some_shares(chance, table):
    """Shares of the table: all 0, alike, small, with great tops and all bottoms, or some 0."""
    return tuple(
        tuple(quotient(value) for value in shares) for shares in (
            [Fraction(0)] * len(table), [Fraction(1, 7)] * len(table),
            [Fraction(chance.randint(0, 4), chance.choice((1, 2, 3, 4))) for _ in table],
            [Fraction(10 ** 12 - chance.randint(0, 9), chance.randint(1, 60)) for _ in table],
            [Fraction(chance.choice((0, 5)), chance.randint(57, 60)) for _ in table],
        )
    )


def values(shares):
    """The Fractions of quotients."""
    return [Fraction(*share) for share in shares]


def slow_sum(rule, table, shares, row=None):
    """The greatest sum of a quarrel, or of one with the row."""
    groups = [group for group in slow_groups(rule, table, True) if row is None or row in group]
    return max(sum((Fraction(*shares[other]) for other in group), Fraction(0)) for group in groups)


def regrouped(chance, pieces, many):
    """The pieces with another group in one of them."""
    if pieces == () or many == 0:
        return pieces
    at = chance.randrange(len(pieces))
    group = tuple(sorted(chance.sample(range(many), chance.randint(1, many))))
    return pieces[:at] + ((pieces[at][0], group),) + pieces[at + 1:]
