"""Shares and means, told as (over, under)."""

from math import gcd

from measurehall.machines import is_number

MOST_UNDER = 1000


def smallest(over, under):
    """Tell over by under as small as can be."""
    common = gcd(over, under)
    return (over // common, under // common)


def is_share(value):
    """Tell whether value is a share (over, under) that may be asked for."""
    if not isinstance(value, tuple) or len(value) != 2:
        return False
    over, under = value
    return is_number(under, 1, MOST_UNDER) and is_number(over, 0, under)
