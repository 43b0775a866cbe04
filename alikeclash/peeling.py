"""Weights dealt to peaces, or by the other words of a chain to quarrels, one behind the other."""

from alikeclash.chains import with_other_words
from alikeclash.nesting import heaviest_quarrel, weight_of


def peeled_pieces(chain, table, weights):
    """A plan of rounds as long as the load, by the rule that the chain says.

    A quarrel is full if it weighs as much as the rounds that are left are long. Each piece
    has a row of each full quarrel, and ends when a row has its weight or one more quarrel
    is full. So there are at most as many pieces as rows with a weight above 0.
    """
    due = list(weights)
    full = [heaviest_quarrel(chain, table, due)]
    length = weight_of(due, full[0])
    pieces = []
    while length > 0:
        group = peace_in_all(chain, table, due, full)
        others = [0 if row in group else due[row] for row in range(len(due))]
        quarrel = heaviest_quarrel(chain, table, others)
        spare = length - weight_of(others, quarrel)
        if spare == 0:
            # This quarrel is full, too, and the group has none of its rows.
            full.append(quarrel)
        else:
            piece = min([spare] + [due[row] for row in group])
            pieces.append((piece, group))
            length -= piece
            due = [due[row] - piece if row in group else due[row] for row in range(len(due))]
    return tuple(pieces)


def peace_in_all(chain, table, due, full):
    """A peace of rows that are due, which has a row of each full quarrel."""
    # The rows of a peace are in at most one place of each quarrel, so a peace that
    # counts most quarrels has a row of each of them.
    counts = [len([quarrel for quarrel in full if row in quarrel]) if due[row] > 0 else 0 for row in range(len(due))]
    peace = heaviest_quarrel(with_other_words(chain), table, counts)
    return tuple([row for row in peace if due[row] > 0])
