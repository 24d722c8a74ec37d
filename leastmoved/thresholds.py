"""Assignments by intervals: consecutive buckets for each variant, in an order of the variants."""

from itertools import permutations

from leastmoved.allocations import are_allocations, check_alike, check_allocation, is_order, transfer
from leastmoved.assignments import churn, moves, one_after_another
from leastmoved.checks import require
from leastmoved.histories import steps_of, total

MOST_ALLOCATIONS = 6


def check_order(order, allocation):
    """Raise BadValue unless the value is an order of the variants of the allocation."""
    require(is_order(order, len(allocation)), "order")


def check_ordered(allocation, order):
    """Raise BadValue unless these are an allocation and an order of its variants."""
    check_allocation(allocation, "allocation")
    check_order(order, allocation)


def both_by_intervals(first, second, order):
    """Return the assignments by intervals of two allocations, after the arguments have been checked."""
    check_allocation(first, "first")
    check_alike(second, first, "second")
    check_order(order, first)
    return (one_after_another(first, order), one_after_another(second, order))


def by_intervals(allocation, order):
    """Return the assignment by intervals."""
    check_ordered(allocation, order)
    return one_after_another(allocation, order)


def boundaries(allocation, order):
    """Return the tuple of the places at which one interval ends and the next one begins."""
    check_ordered(allocation, order)
    found = []
    place = 0
    for variant in order[:-1]:
        place += allocation[variant]
        found.append(place)
    return tuple(found)


def interval_churn(first, second, order):
    """Return the churn of the assignments by intervals of the two allocations."""
    old, new = both_by_intervals(first, second, order)
    return churn(old, new)


def waste(first, second, order):
    """Return by how much the interval churn is greater than the transfer."""
    moved = interval_churn(first, second, order)
    return moved - transfer(first, second)


def interval_moves(first, second, order):
    """Return the list of (old, new, first bucket, number of buckets) of the moves, by their first buckets."""
    old_row, new_row = both_by_intervals(first, second, order)
    moving = {}
    for bucket, old, new in moves(old_row, new_row):
        moving.setdefault((old, new), []).append(bucket)
    return [(old, new, buckets[0], len(buckets)) for (old, new), buckets in moving.items()]


def best_order(allocations):
    """Return the first order with the least total of the interval churns, this total, and that of the transfers."""
    require(are_allocations(allocations, MOST_ALLOCATIONS), "allocations")
    steps = steps_of(allocations)
    orders = list(permutations(range(len(allocations[0]))))
    totals = [sum([interval_churn(before, after, order) for before, after in steps]) for order in orders]
    least = min(totals)
    return (orders[totals.index(least)], least, total(allocations))
