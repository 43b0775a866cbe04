"""Two-sided webs: ties (left, right, weight) between left and right ends."""

from alikeclash.helpers import ascends, is_tuple_of, need
from alikeclash.kinds import is_number


def is_side_web(thing):
    """Whether any value is a side web."""
    if not isinstance(thing, tuple) or not all([is_tie(part) for part in thing]):
        return False
    return ascends([part[:2] for part in thing])


def ends_of(web):
    """The set of all ends of ties."""
    need(is_side_web(web), "web")
    return tuple(sorted(list(sums_by_end(web))))


def end_sums(web):
    """The set of the pairs of an end and the weight of all ties with this end."""
    need(is_side_web(web), "web")
    return tuple(sorted(list(sums_by_end(web).items())))


def fullest_end(web):
    """A pair of an end and its sum, which is the greatest of all; or None."""
    need(is_side_web(web), "web")
    sums = sums_by_end(web)
    greatest = max(list(sums.values()), default=0)
    fullest = [(end, total) for end, total in sums.items() if total == greatest]
    return fullest[0] if fullest else None


def without_ends(web, left, right):
    """The ties that have neither this left end nor this right end."""
    need(is_side_web(web), "web")
    need(is_number(left), "left")
    need(is_number(right), "right")
    return tuple([tie for tie in web if tie[0] != left and tie[1] != right])


def is_tie(thing):
    """Whether any value is a tie, of a weight of at least 1."""
    return is_tuple_of(3, thing) and all([is_number(part) for part in thing]) and thing[2] >= 1


def ends_at(tie):
    """Both ends of a tie."""
    return ("left", tie[0]), ("right", tie[1])


def sums_by_end(web):
    """For each end the weight of all ties with it."""
    sums = {}
    for tie in web:
        for end in ends_at(tie):
            sums[end] = sums.get(end, 0) + tie[2]
    return sums
