"""Ties dealt out evenly: each piece with as many of them as the others, or with one more."""

from alikeclash.dealing import due_behind, spans_beside, sums_due, ties_for_ends


def evenly_dealt(web, length):
    """Pieces, so long in all, that give each tie its weight, of weight over length ties each.

    The number of ties is rounded up in the first pieces and down in the later ones. No end's
    sum is above the length, and the length is at most the weight of all ties. A piece ends
    when a tie has its weight, an end must be in all pieces behind it, or fewer ties are to be
    in these. So there is at most one piece more than ties.
    """
    due = {tie: web[tie][2] for tie in range(len(web))}
    few, longer = divmod(sum(list(due.values())), length)
    left = length
    pieces = []
    while left > 0:
        sums = sums_due(web, due)
        group = ties_for_ends(web, list(due), [end for end in sums if sums[end] == left])
        while len(group) < (few + 1 if longer > 0 else few):
            group = with_one_more(web, list(due), group)
        piece = min(spans_beside(web, due, left, group))
        if longer > 0:
            piece = min(piece, longer)
            longer -= piece
        pieces.append((piece, group))
        due = due_behind(due, piece, group)
        left -= piece
    return tuple(pieces)


def with_one_more(web, ties, group):
    """One more of the ties than in the group, no two with a common end, which have all ends of the group."""
    at_left = {web[tie][0]: tie for tie in group}
    at_right = {web[tie][1]: tie for tie in group}
    lefts = sorted(set([web[tie][0] for tie in ties if web[tie][0] not in at_left]))
    # For each right end that is found the tie by which it was reached.
    reached = {}
    right = None
    while right is None:
        left = lefts.pop()
        for tie in ties:
            other = web[tie][1]
            if web[tie][0] == left and other not in reached:
                reached[other] = tie
                if other in at_right:
                    lefts.append(web[at_right[other]][0])
                else:
                    right = other
    return exchanged_ties(web, at_left, reached, right)


def exchanged_ties(web, at_left, reached, right):
    """The ties at_left, with those by which the right end was reached, from end to end, in their places."""
    kept = {left: at_left[left] for left in at_left}
    while right is not None:
        tie = reached[right]
        left = web[tie][0]
        before = kept.get(left)
        kept[left] = tie
        right = None if before is None else web[before][1]
    return tuple(sorted(list(kept.values())))
