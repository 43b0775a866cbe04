"""Sentences about lots.

A sentence may be nested some hundred deep on one side, when it was read from a
long line, so nothing here goes into it by recursion.
"""

from alikeclash.grounds import said_lots
from alikeclash.helpers import need
from alikeclash.kinds import is_lot, is_number

INNER = {"always": 0, "never": 0, "not": 1, "and": 2, "or": 2}


def is_sentence(size, thing):
    """Whether thing is a sentence of the size."""
    waiting = [thing]
    while waiting:
        part = waiting.pop()
        if is_same(size, part):
            continue
        if not is_joined(part):
            return False
        waiting.extend(part[1:])
    return True


def holds_for(size, sentence, lot):
    """Whether the sentence holds for the lot."""
    need(is_sentence(size, sentence), "sentence")
    need(is_lot(size, lot), "lot")
    return word_for(inside_out(sentence), lot)


def alike_sentence(size, lot):
    """The sentence that each column of the lot is in it."""
    need(is_lot(size, lot), "lot")
    if lot == ():
        return ("always",)
    sentence = ("same", lot[0])
    for column in lot[1:]:
        sentence = ("and", sentence, ("same", column))
    return sentence


def same_sense(ground, sentence, other_sentence):
    """Whether both sentences hold for the same ones of the closed lots but the whole one."""
    need(is_sentence(ground[0], sentence), "sentence")
    need(is_sentence(ground[0], other_sentence), "other_sentence")
    return lots_where(ground, sentence) == lots_where(ground, other_sentence)


def lots_where(ground, sentence):
    """The set of the closed lots, but the whole one, for which the sentence holds."""
    parts = inside_out(sentence)
    return tuple([lot for lot in said_lots(ground) if word_for(parts, lot)])


def is_same(size, part):
    """Whether part is a sentence ("same", column)."""
    if not isinstance(part, tuple) or len(part) != 2 or part[0] != "same":
        return False
    return is_number(part[1]) and part[1] < size


def is_joined(part):
    """Whether part has the form of a sentence but "same", whatever its inner ones are."""
    if not isinstance(part, tuple) or part == () or not isinstance(part[0], str):
        return False
    return part[0] in INNER and len(part) == INNER[part[0]] + 1


def inside_out(sentence):
    """The list of all sentences in the sentence, each one behind its inner ones, itself last."""
    waiting = [sentence]
    parts = []
    while waiting:
        part = waiting.pop()
        parts.append(part)
        if part[0] != "same":
            waiting.extend(part[1:])
    return parts[::-1]


def word_for(parts, lot):
    """Whether the sentence whose inside_out is parts holds for the lot."""
    words = []
    for part in parts:
        if part[0] == "same":
            words.append(part[1] in lot)
        elif part[0] == "always" or part[0] == "never":
            words.append(part[0] == "always")
        elif part[0] == "not":
            words.append(not words.pop())
        else:
            last = words.pop()
            first = words.pop()
            words.append(first and last if part[0] == "and" else first or last)
    return words[0]
