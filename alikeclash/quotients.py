"""Reckoning with quotients, which are pairs (top, bottom) in lowest terms."""

from math import gcd

from alikeclash.helpers import need
from alikeclash.kinds import is_integer, is_quotient


def quotient_of(top, bottom):
    """The quotient top / bottom."""
    need(is_integer(top), "top")
    need(is_integer(bottom) and bottom != 0, "bottom")
    return lowest(top, bottom)


def plus(one, another):
    """The sum."""
    need_two(one, another)
    return lowest(one[0] * another[1] + another[0] * one[1], one[1] * another[1])


def minus(one, another):
    """One with another taken off."""
    need_two(one, another)
    return lowest(one[0] * another[1] - another[0] * one[1], one[1] * another[1])


def times(one, another):
    """The product."""
    need_two(one, another)
    return lowest(one[0] * another[0], one[1] * another[1])


def over(one, another):
    """One over another, which is not nought."""
    need(is_quotient(one), "one")
    need(is_quotient(another) and another[0] != 0, "another")
    return lowest(one[0] * another[1], one[1] * another[0])


def at_most(one, another):
    """Whether one is at most another."""
    need_two(one, another)
    return one[0] * another[1] <= another[0] * one[1]


def rounded_up(one):
    """The least integer that is at least one."""
    need(is_quotient(one), "one")
    return -(-one[0] // one[1])


def need_two(one, another):
    """Refuse what is not a quotient."""
    need(is_quotient(one), "one")
    need(is_quotient(another), "another")


def lowest(top, bottom):
    """The quotient top / bottom, bottom not 0."""
    divisor = gcd(top, bottom)
    if bottom < 0:
        divisor = -divisor
    return top // divisor, bottom // divisor
