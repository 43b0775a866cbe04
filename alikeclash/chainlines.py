"""Lines of chains, written and read."""

from alikeclash.chainchecker import STEP_LOTS, fits_state, is_chain, state_behind_step
from alikeclash.errors import InvalidText
from alikeclash.grounds import base_mask, mask_pairs, whole_mask
from alikeclash.helpers import need, pieces_of
from alikeclash.tablelines import is_next_column, numbers_line

STEPS = ("end", "one", "two")
WORDS = ("no", "yes")


def chain_line(ground, chain):
    """The line of the chain."""
    need(is_chain(ground, chain), "chain")
    return " ; ".join([step_line(step) for step in chain])


def read_chain(ground, text):
    """The chain with this line."""
    need(isinstance(text, str), "text")
    pieces = pieces_of(text)
    pairs = mask_pairs(ground)
    state = base_mask(ground)
    stopped = state == whole_mask(ground)
    steps = []
    at = 0
    while not stopped:
        if steps:
            at = read_sign(pieces, at, ";")
        step, behind = read_step(ground[0], pieces, at)
        if not fits_state(ground, state, step):
            raise InvalidText(0, at)
        at = behind
        steps.append(step)
        state = state_behind_step(pairs, state, step)
        stopped = step[0] == "end" or state == whole_mask(ground)
    if at < len(pieces):
        raise InvalidText(0, at)
    return tuple(steps)


def step_line(step):
    """The line of a step."""
    word = "yes" if step[-1] else "no"
    if step[0] == "end":
        return f"end {word}"
    lots = " / ".join([numbers_line(lot) for lot in step[1:-1]])
    return f"{step[0]} {lots} {word}"


def read_step(size, pieces, at):
    """The step that begins at a piece, and the place behind it."""
    name = piece_in(pieces, at, STEPS)
    lots = []
    behind = at + 1
    for k in range(STEP_LOTS[name]):
        if k > 0:
            behind = read_sign(pieces, behind, "/")
        lot, behind = read_lot(size, pieces, behind)
        lots.append(lot)
    word = piece_in(pieces, behind, WORDS) == "yes"
    return (name, *lots, word), behind + 1


def read_lot(size, pieces, at):
    """The lot, of at least one column, that begins at a piece, and the place behind it."""
    columns = []
    while at + len(columns) < len(pieces) and is_next_column(size, columns, pieces[at + len(columns)]):
        columns.append(int(pieces[at + len(columns)]))
    if not columns:
        raise InvalidText(0, at)
    return tuple(columns), at + len(columns)


def read_sign(pieces, at, sign):
    """The place behind the sign, which must stand at a place."""
    piece_in(pieces, at, (sign,))
    return at + 1


def piece_in(pieces, at, known):
    """The piece at a place, which must be one of those that are known there."""
    if at == len(pieces) or pieces[at] not in known:
        raise InvalidText(0, at)
    return pieces[at]
