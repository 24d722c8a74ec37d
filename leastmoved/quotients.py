"""Quotients: pairs of integers (n, d) with d at least 1."""

from math import gcd, lcm

GREATEST_DIVISOR = 10000


def in_lowest_terms(number, divisor):
    """Return the quotient of the two in lowest terms."""
    common = gcd(number, divisor)
    return (number // common, divisor // common)


def common_divisor_of(quotients):
    """Return the least integer of which all of the quotients are whole parts."""
    common = 1
    for _, divisor in quotients:
        common = lcm(common, divisor)
    return common


def weights_of(quotients):
    """Return the quotients as a tuple of whole numbers of one and the same part."""
    common = common_divisor_of(quotients)
    return tuple([number * (common // divisor) for number, divisor in quotients])


def are_the_whole(quotients):
    """Return True if the quotients have the total 1."""
    return sum(weights_of(quotients)) == common_divisor_of(quotients)
