"""Allocations: how many buckets each variant has."""

from leastmoved.checks import MOST_BUCKETS, MOST_VARIANTS, are_integers, is_integer, require
from leastmoved.quotients import in_lowest_terms

GREATEST_WEIGHT = 1000000


def is_allocation(value, variants, buckets):
    """Return True if the value is an allocation of so many buckets to so many variants."""
    # No share can be greater than the total, so the bound refuses nothing but negative ones.
    return are_integers(value, 0, buckets) and len(value) == variants and sum(value) == buckets


def is_bounded_allocation(value):
    """Return True if the value is an allocation of 0 to 20 buckets to 1 to 5 variants."""
    if not are_integers(value, 0, MOST_BUCKETS):
        return False
    return 1 <= len(value) <= MOST_VARIANTS and sum(value) <= MOST_BUCKETS


def are_allocations(value, most):
    """Return True if the value is a tuple of 1 to so many allocations of the same size, within the bounds."""
    if not isinstance(value, tuple) or not 1 <= len(value) <= most:
        return False
    if not is_bounded_allocation(value[0]):
        return False
    return all([is_allocation(each, len(value[0]), sum(value[0])) for each in value])


def is_order(value, many):
    """Return True if the value is an order of so many things."""
    return are_integers(value, 0, many - 1) and len(value) == many and len(set(value)) == many


def are_weights(value):
    """Return True if the value is a tuple of 1 to 5 weights, not all of them 0."""
    return are_integers(value, 0, GREATEST_WEIGHT) and 1 <= len(value) <= MOST_VARIANTS and sum(value) > 0


def check_allocation(value, name):
    """Raise BadValue with the name unless the value is an allocation within the bounds."""
    require(is_bounded_allocation(value), name)


def check_alike(value, first, name):
    """Raise BadValue with the name unless the value is an allocation of the same size as the first one."""
    require(is_allocation(value, len(first), sum(first)), name)


def check_weighted(weights, allocation):
    """Raise BadValue unless these are weights and an allocation to as many variants."""
    require(are_weights(weights), "weights")
    require(is_bounded_allocation(allocation) and len(allocation) == len(weights), "allocation")


def transfer(first, second):
    """Return how many buckets have to move from the first allocation to the second one."""
    check_allocation(first, "first")
    check_alike(second, first, "second")
    return sum([max(old - new, 0) for old, new in zip(first, second)])


def medians(first, second, third):
    """Return the middle one of the three shares of each variant."""
    check_allocation(first, "first")
    check_alike(second, first, "second")
    check_alike(third, first, "third")
    return tuple([sorted(shares)[1] for shares in zip(first, second, third)])


def rests_of(weights, buckets):
    """Return the rests of the quotas, each times the total of the weights."""
    return [buckets * weight % sum(weights) for weight in weights]


def by_largest_rests(weights, buckets):
    """Return the allocation by largest rests, for weights of any size."""
    rests = rests_of(weights, buckets)
    shares = [buckets * weight // sum(weights) for weight in weights]
    by_rest = sorted([(-rest, variant) for variant, rest in enumerate(rests)])
    for _, variant in by_rest[:buckets - sum(shares)]:
        shares[variant] += 1
    return tuple(shares)


def apportioned(weights, buckets):
    """Return the allocation by largest rests."""
    require(are_weights(weights), "weights")
    require(is_integer(buckets, 0, MOST_BUCKETS), "buckets")
    return by_largest_rests(weights, buckets)


def surpluses(weights, allocation):
    """Return what each share is greater than its quota, times the total of the weights."""
    buckets = sum(allocation)
    return [share * sum(weights) - buckets * weight for weight, share in zip(weights, allocation)]


def deviation(weights, allocation):
    """Return the deviation of the allocation from the weights, in lowest terms."""
    check_weighted(weights, allocation)
    distance = sum([abs(surplus) for surplus in surpluses(weights, allocation)])
    return in_lowest_terms(distance, sum(weights))


def is_nearest(weights, allocation):
    """Return True if no allocation of as many buckets has a smaller deviation."""
    check_weighted(weights, allocation)
    over = surpluses(weights, allocation)
    if max([abs(surplus) for surplus in over]) >= sum(weights):
        return False
    rests = rests_of(weights, sum(allocation))
    rounded_up = [rest for rest, surplus in zip(rests, over) if surplus > 0]
    rounded_down = [rest for rest, surplus in zip(rests, over) if surplus < 0]
    # Not all shares can lie on one side of their quotas, so both lists are empty or none is.
    return not rounded_up or min(rounded_up) >= max(rounded_down)


def placed(parts, order):
    """Return the tuple that has each part at the place that the order tells for it."""
    return tuple([parts[order.index(place)] for place in range(len(order))])


def renamed_shares(allocation, order):
    """Return the allocation with its variants renamed: order[v] is the new name of v."""
    check_allocation(allocation, "allocation")
    require(is_order(order, len(allocation)), "order")
    return placed(allocation, order)
