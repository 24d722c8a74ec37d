"""Assignments of a further allocation that continue a rule, and evidence where there are none."""

from leastmoved.allocations import is_allocation
from leastmoved.checks import is_integer, require
from leastmoved.fitting import first_fit, first_shortage, is_shortage
from leastmoved.rules import CONTROL, check_rule, first_left, is_left


def check_continuing(variants, buckets, rule, allocation):
    """Raise BadValue unless these are a rule with its sizes and an allocation of them."""
    check_rule(variants, buckets, rule)
    require(is_allocation(allocation, variants, buckets), "allocation")


def is_allowed(rule, allocation, bucket, variant):
    """Return True if the rule allows the variant for the bucket."""
    for shares, assignment in rule:
        own = assignment[bucket]
        if own == variant:
            continue
        if own != CONTROL and shares[own] <= allocation[own]:
            return False
        if variant != CONTROL and shares[variant] >= allocation[variant]:
            return False
    return True


def allowed_for_all(variants, buckets, rule, allocation):
    """Return the tuple of the tuples of the allowed variants of each bucket."""
    found = []
    for bucket in range(buckets):
        found.append(tuple([v for v in range(variants) if is_allowed(rule, allocation, bucket, v)]))
    return tuple(found)


def allowed_variants(variants, buckets, rule, allocation):
    """Return the tuple of the ascending tuples of the variants that are allowed for each bucket."""
    check_continuing(variants, buckets, rule, allocation)
    return allowed_for_all(variants, buckets, rule, allocation)


def continuation(variants, buckets, rule, allocation):
    """Return the first assignment that continues the rule at the allocation, or None."""
    check_continuing(variants, buckets, rule, allocation)
    if first_left(rule, buckets) is not None:
        return None
    return first_fit(allocation, allowed_for_all(variants, buckets, rule, allocation))


def why_none(variants, buckets, rule, allocation):
    """Return evidence that no assignment continues the rule at the allocation, or None."""
    check_continuing(variants, buckets, rule, allocation)
    left = first_left(rule, buckets)
    if left is not None:
        return ("needless",) + left
    shortage = first_shortage(allocation, allowed_for_all(variants, buckets, rule, allocation))
    return None if shortage is None else ("short",) + shortage


def is_needless(buckets, rule, value):
    """Return True if the value tells two indexes and a bucket that leaves needlessly from the one to the other."""
    if len(value) != 3:
        return False
    first, second, bucket = value
    if not is_integer(first, 0, len(rule) - 1) or not is_integer(second, 0, len(rule) - 1):
        return False
    return is_integer(bucket, 0, buckets - 1) and is_left(rule[first], rule[second], bucket)


def accepts_none(variants, buckets, rule, allocation, evidence):
    """Return True if the value is evidence that no assignment continues the rule at the allocation."""
    check_continuing(variants, buckets, rule, allocation)
    if not isinstance(evidence, tuple) or len(evidence) == 0:
        return False
    if evidence[0] == "needless":
        return is_needless(buckets, rule, evidence[1:])
    if evidence[0] != "short":
        return False
    return is_shortage(allocation, allowed_for_all(variants, buckets, rule, allocation), evidence[1:])
