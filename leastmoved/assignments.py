"""Assignments: which variant each bucket has."""

from leastmoved.allocations import is_order, placed
from leastmoved.checks import MOST_BUCKETS, MOST_VARIANTS, are_integers, is_integer, require


def is_assignment(value, variants, buckets):
    """Return True if the value is a tuple of so many integers below the number of variants."""
    return are_integers(value, 0, variants - 1) and len(value) == buckets


def is_bounded_assignment(value, variants):
    """Return True if the value assigns 0 to 20 buckets to so many variants."""
    return are_integers(value, 0, variants - 1) and len(value) <= MOST_BUCKETS


def check_assignment(value, name):
    """Raise BadValue with the name unless the value is an assignment within the bounds."""
    require(is_bounded_assignment(value, MOST_VARIANTS), name)


def check_pair(first, second):
    """Raise BadValue unless these are two assignments of as many buckets."""
    check_assignment(first, "first")
    require(is_assignment(second, MOST_VARIANTS, len(first)), "second")


def check_enough(variants, assignment):
    """Raise BadValue unless the variants are at most 5 and include those of the assignment."""
    least = max(assignment, default=0) + 1
    require(is_integer(variants, least, MOST_VARIANTS), "variants")


def allocation_of(assignment, variants):
    """Return the allocation of which this is an assignment."""
    check_assignment(assignment, "assignment")
    check_enough(variants, assignment)
    return tuple([assignment.count(variant) for variant in range(variants)])


def is_assignment_of(value, allocation):
    """Return True if the value is an assignment of the allocation."""
    variants = len(allocation)
    return is_assignment(value, variants, sum(allocation)) and allocation_of(value, variants) == allocation


def are_assignments_of(value, allocations):
    """Return True if the value is a tuple of an assignment of each allocation, in their order."""
    if not isinstance(value, tuple) or len(value) != len(allocations):
        return False
    return all([is_assignment_of(part, allocation) for part, allocation in zip(value, allocations)])


def one_after_another(allocation, order):
    """Return the assignment of the allocation in which the variants stand in this order."""
    row = []
    for variant in order:
        row.extend([variant] * allocation[variant])
    return tuple(row)


def ascending(allocation):
    """Return the first assignment of the allocation, in which the variants stand in ascending order."""
    return one_after_another(allocation, tuple(range(len(allocation))))


def churn(first, second):
    """Return the number of buckets that have different variants."""
    return len(moves(first, second))


def moves(first, second):
    """Return the list of (bucket, old, new) of the buckets that have different variants."""
    check_pair(first, second)
    return [(bucket, old, new) for bucket, (old, new) in enumerate(zip(first, second)) if old != new]


def flows(first, second, variants):
    """Return the table of how many buckets have v in the first and w in the second assignment."""
    check_pair(first, second)
    check_enough(variants, first + second)
    pairs = list(zip(first, second))
    return tuple([tuple([pairs.count((old, new)) for new in range(variants)]) for old in range(variants)])


def buckets_of(assignment, variant):
    """Return the list of the buckets that have the variant."""
    check_assignment(assignment, "assignment")
    require(is_integer(variant, 0, MOST_VARIANTS - 1), "variant")
    return [bucket for bucket, own in enumerate(assignment) if own == variant]


def renamed(assignment, order):
    """Return the assignment with its variants renamed: order[v] is the new name of v."""
    check_assignment(assignment, "assignment")
    require(is_order(order, MOST_VARIANTS), "order")
    return tuple([order[variant] for variant in assignment])


def rearranged(assignment, order):
    """Return the assignment with its buckets rearranged: the bucket order[b] gets the variant of b."""
    check_assignment(assignment, "assignment")
    require(is_order(order, len(assignment)), "order")
    return placed(assignment, order)
