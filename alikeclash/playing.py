"""First fit and heaviest first, by the masks of the rows that clash with each row."""


def fitted_rounds(clashing, sequence):
    """The rounds that first fit makes, as masks of rows."""
    rounds = []
    for row in sequence:
        free = [k for k in range(len(rounds)) if rounds[k] & clashing[row] == 0]
        if free:
            rounds[free[0]] |= 1 << row
        else:
            rounds.append(1 << row)
    return rounds


def kept_rows(clashing, weights):
    """The mask of the rows that heaviest first keeps."""
    kept = 0
    for _, row in sorted([(-weights[row], row) for row in range(len(weights))]):
        if kept & clashing[row] == 0:
            kept |= 1 << row
    return kept
