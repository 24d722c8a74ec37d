"""Rules without memory: an assignment for each allocation, whatever was before."""

from itertools import combinations

from leastmoved.allocations import is_allocation, transfer
from leastmoved.assignments import buckets_of, churn, is_assignment_of
from leastmoved.changes import check_bucket
from leastmoved.checks import check_sizes, is_integer, require
from leastmoved.priorities import are_lists, fits, short_list

MOST_PAIRS = 20
CONTROL = 0


def check_rule(variants, buckets, rule):
    """Raise BadValue unless these are the sizes of a rule and the rule."""
    require(is_rule(rule, variants, buckets), "rule")


def is_pair(value, variants, buckets):
    """Return True if the value is an allocation of these sizes with an assignment of it."""
    if not isinstance(value, tuple) or len(value) != 2:
        return False
    return is_allocation(value[0], variants, buckets) and is_assignment_of(value[1], value[0])


def is_rule(value, variants, buckets):
    """Return True if the value is a rule for so many buckets and variants."""
    check_sizes(variants, buckets)
    if not isinstance(value, tuple) or len(value) > MOST_PAIRS:
        return False
    if not all([is_pair(pair, variants, buckets) for pair in value]):
        return False
    return len(set([allocation for allocation, _ in value])) == len(value)


def given_back(allocation, variant):
    """Return the allocation that gives one bucket of the variant to the control."""
    shares = list(allocation)
    shares[variant] -= 1
    shares[CONTROL] += 1
    return tuple(shares)


def missing(variants, buckets, rule):
    """Return the first index, variant and allocation that the rule lacks to be closed, or None."""
    check_rule(variants, buckets, rule)
    known = [allocation for allocation, _ in rule]
    # Every lesser allocation is reached by giving back one bucket at a time.
    for index, allocation in enumerate(known):
        for variant in range(CONTROL + 1, variants):
            if allocation[variant] > 0 and given_back(allocation, variant) not in known:
                return (index, variant, given_back(allocation, variant))
    return None


def is_left(one, two, bucket):
    """Return True if the bucket leaves needlessly from the one pair to the other one."""
    shares, assignment = one
    other_shares, other = two
    own = assignment[bucket]
    return own != CONTROL and other[bucket] != own and other_shares[own] >= shares[own]


def first_left(rule, buckets):
    """Return the first two indexes and the bucket that leaves needlessly from the one to the other, or None."""
    for first, one in enumerate(rule):
        for second, two in enumerate(rule):
            for bucket in range(buckets):
                if is_left(one, two, bucket):
                    return (first, second, bucket)
    return None


def needless_leave(variants, buckets, rule):
    """Return the first two indexes and the bucket that leaves needlessly, or None if the rule is steady."""
    check_rule(variants, buckets, rule)
    return first_left(rule, buckets)


def leaves(variants, buckets, rule, first, second, bucket):
    """Return True if the bucket leaves needlessly from the pair first to the pair second."""
    check_rule(variants, buckets, rule)
    require(is_integer(first, 0, len(rule) - 1), "first")
    require(is_integer(second, 0, len(rule) - 1), "second")
    check_bucket(bucket, buckets)
    return is_left(rule[first], rule[second], bucket)


def lists_of_rule(variants, buckets, rule):
    """Return the first lists that serve the rule and are as short as they can be, or None if it is not steady."""
    if needless_leave(variants, buckets, rule) is not None:
        return None
    table = [assignment for _, assignment in rule]
    return tuple([short_list(table, variant) for variant in range(CONTROL + 1, variants)])


def serves_rule(variants, buckets, rule, lists):
    """Return True if the value are lists that serve the rule."""
    check_rule(variants, buckets, rule)
    if not are_lists(lists, variants - 1, buckets):
        return False
    for _, assignment in rule:
        owned = [buckets_of(assignment, variant) for variant in range(CONTROL + 1, variants)]
        if not all([fits(row, own) for row, own in zip(lists, owned)]):
            return False
    return True


def most_waste(variants, buckets, rule):
    """Return the first two indexes with the greatest waste, their churn and their transfer, or None."""
    check_rule(variants, buckets, rule)
    found = None
    greatest = -1
    for first, second in combinations(range(len(rule)), 2):
        moved = churn(rule[first][1], rule[second][1])
        needed = transfer(rule[first][0], rule[second][0])
        if moved - needed > greatest:
            greatest = moved - needed
            found = (first, second, moved, needed)
    return found
