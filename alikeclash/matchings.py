"""Matchings of two-sided webs."""

from alikeclash.helpers import need
from alikeclash.matchchecker import is_matching
from alikeclash.pricing import Pricing
from alikeclash.sidewebs import ends_of, is_side_web


def heaviest_matching(web):
    """A heaviest matching, and prices of all ends that show it to be heaviest."""
    need(is_side_web(web), "web")
    pricing = Pricing(web)
    pricing.match_all()
    return pricing.matching(), tuple([(end, pricing.price_of(end)) for end in ends_of(web)])


def matching_weight(web, matching):
    """The weight of the matching."""
    need(is_side_web(web), "web")
    need(is_matching(web, matching), "matching")
    return sum([web[tie][2] for tie in matching])
