"""How answers about at most three columns tell a rule with a chain.

Words map masks of asked lots to the answers; those of all lots of one or two columns
are among them. Columns of one step "two" are linked across its two lots; a block is the
mask of columns that hang together by links, or of one column without links.
"""

from alikeclash.lots import lot_of, lots_of, mask_of
from alikeclash.webforms import reached_from


def rule_told_by(size, words):
    """The rule with a chain that answers all of the words as told, or None."""
    links = links_of(size, words)
    ordered = ordered_blocks(links, words)
    if ordered is None:
        return None
    sides = [sides_of(links, words, block) for block in ordered]
    if not all([word_by_sides(sides, mask) == words[mask] for mask in words]):
        return None
    whole = (1 << size) - 1
    lots = [lot for lot in lots_of(size) if len(lot) < size]
    return tuple([lot for lot in lots if word_by_sides(sides, whole & ~mask_of(lot))])


def untold_mask(size, words):
    """The mask of a lot that must be told before the words tell a rule, or None."""
    links = links_of(size, words)
    blocks = blocks_of(links)
    for one in blocks:
        for another in blocks:
            if one < another and own_word(words, one) == own_word(words, another):
                masks = deciding_masks(links, one, another)
                if masks and not [mask for mask in masks if mask in words]:
                    return masks[0]
    return None


def links_of(size, words):
    """For each column the mask of the columns that are linked with it."""
    links = [0] * size
    for one in range(size):
        for another in range(size):
            own = words[1 << one]
            if one != another and words[1 << another] == own and words[1 << one | 1 << another] != own:
                links[one] |= 1 << another
    return links


def blocks_of(links):
    """All blocks."""
    return sorted(set([reached_from(links, column) for column in range(len(links))]))


def own_word(words, block):
    """The answer to each single column of the block."""
    return words[block & -block]


def deciding_masks(links, one, another):
    """The masks of two linked columns of one block and a column of the other one."""
    masks = []
    for linked, other in ((one, another), (another, one)):
        for column in lot_of(linked):
            for beside in lot_of(links[column]):
                if column < beside:
                    masks.extend([1 << column | 1 << beside | 1 << single for single in lot_of(other)])
    return masks


def may_be_ahead(links, words, one, another):
    """Whether a chain that answers as told may have one block ahead of another one."""
    own = own_word(words, one)
    if own_word(words, another) != own:
        return words[(one & -one) | (another & -another)] == own
    told = [mask for mask in deciding_masks(links, one, another) if mask in words]
    if not told:
        # Two columns without links that have one word may stand in any sequence.
        return True
    two_in_one = len(lot_of(told[0] & one)) == 2
    # Two linked columns turn the word exactly if nothing ahead of their block decides.
    return two_in_one == (words[told[0]] != own)


def ordered_blocks(links, words):
    """The blocks in a sequence in which a chain may have them, or None."""
    left = blocks_of(links)
    ordered = []
    while left:
        ahead = [one for one in left if is_ahead_of_all(links, words, one, left)]
        if not ahead:
            return None
        ordered.append(ahead[0])
        left.remove(ahead[0])
    return ordered


def is_ahead_of_all(links, words, one, blocks):
    """Whether one block may be ahead of all other ones of the blocks."""
    return all([may_be_ahead(links, words, one, another) for another in blocks if another != one])


def sides_of(links, words, block):
    """The masks of the columns of the block in each lot of its step, and its own word."""
    other = links[lot_of(block)[0]]
    return block & ~other, other, own_word(words, block)


def word_by_sides(sides, mask):
    """What the chain with these sides says to rows that are unlike in the columns of mask."""
    touched = [part for part in sides if mask & (part[0] | part[1]) != 0]
    side, other, word = touched[0]
    return word != (mask & side != 0 and mask & other != 0)
