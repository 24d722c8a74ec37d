"""Forbidden variants: assignments without them, and obstacles where there are none."""

from leastmoved.allocations import check_allocation
from leastmoved.assignments import is_assignment_of
from leastmoved.checks import is_integer, require
from leastmoved.fitting import first_fit, first_shortage, is_shortage


def is_pairing(value, variants, buckets):
    """Return True if the value is a pair of one of so many buckets and one of so many variants."""
    if not isinstance(value, tuple) or len(value) != 2:
        return False
    return is_integer(value[0], 0, buckets - 1) and is_integer(value[1], 0, variants - 1)


def are_pairings(value, variants, buckets):
    """Return True if the value is a tuple of different such pairs in ascending order."""
    if not isinstance(value, tuple) or not all([is_pairing(pair, variants, buckets) for pair in value]):
        return False
    return list(value) == sorted(set(value))


def check_forbidden(allocation, forbidden):
    """Raise BadValue unless these are forbidden pairs of the buckets and variants of the allocation."""
    require(are_pairings(forbidden, len(allocation), sum(allocation)), "forbidden")


def check_exclusions(allocation, forbidden):
    """Raise BadValue unless these are an allocation and forbidden pairs of its buckets and variants."""
    check_allocation(allocation, "allocation")
    check_forbidden(allocation, forbidden)


def open_variants(allocation, forbidden):
    """Return the list of the ascending tuples of the variants that are open for the buckets."""
    found = []
    for bucket in range(sum(allocation)):
        found.append(tuple([v for v in range(len(allocation)) if (bucket, v) not in forbidden]))
    return found


def is_among(value, allocation, can_have):
    """Return True if the value is an assignment of the allocation with variants that the buckets can have."""
    if not is_assignment_of(value, allocation):
        return False
    return all([variant in own for variant, own in zip(value, can_have)])


def is_possible(allocation, forbidden, value):
    """Return True if the value is a possible assignment."""
    check_exclusions(allocation, forbidden)
    return is_among(value, allocation, open_variants(allocation, forbidden))


def first_possible(allocation, forbidden):
    """Return the first possible assignment, or None."""
    check_exclusions(allocation, forbidden)
    return first_fit(allocation, open_variants(allocation, forbidden))


def too_small(allocation, forbidden):
    """Return the first obstacle, or None if some assignment is possible."""
    check_exclusions(allocation, forbidden)
    return first_shortage(allocation, open_variants(allocation, forbidden))


def is_too_small(allocation, forbidden, value):
    """Return True if the value is an obstacle."""
    check_exclusions(allocation, forbidden)
    return is_shortage(allocation, open_variants(allocation, forbidden), value)
