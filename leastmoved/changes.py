"""Changes to an allocation that move as few buckets as possible."""

from leastmoved.allocations import check_allocation, transfer
from leastmoved.assignments import allocation_of, churn, is_assignment, is_bounded_assignment, moves
from leastmoved.checks import check_variants, is_integer, require
from leastmoved.steps import first_state, first_way, options


def check_change(allocation, assignment):
    """Raise BadValue unless these are an allocation and an assignment of the same size."""
    check_allocation(allocation, "allocation")
    check_sized(assignment, allocation, "assignment")


def check_sized(value, allocation, name):
    """Raise BadValue with the name unless the value is an assignment of the size of the allocation."""
    require(is_assignment(value, len(allocation), sum(allocation)), name)


def check_bucket(bucket, buckets):
    """Raise BadValue unless the bucket is one of so many."""
    require(is_integer(bucket, 0, buckets - 1), "bucket")


def needless(variants, assignment, other):
    """Return the first bucket that moves needlessly, with the reason, or None."""
    check_variants(variants)
    require(is_bounded_assignment(assignment, variants), "assignment")
    require(is_assignment(other, variants, len(assignment)), "other")
    before = allocation_of(assignment, variants)
    after = allocation_of(other, variants)
    for bucket, old, new in moves(assignment, other):
        if after[old] >= before[old]:
            return (bucket, "leaves")
        if after[new] <= before[new]:
            return (bucket, "enters")
    return None


def is_minimal(variants, assignment, other):
    """Return True if the change from the one assignment to the other one is least."""
    return needless(variants, assignment, other) is None


def first_change(allocation, assignment):
    """Return the first least change."""
    check_change(allocation, assignment)
    return first_way(first_state(allocation, assignment), assignment)


def excess(allocation, assignment, other):
    """Return by how much the churn is greater than the transfer, or None if the shares are others."""
    check_change(allocation, assignment)
    check_sized(other, allocation, "other")
    variants = len(allocation)
    if allocation_of(other, variants) != allocation:
        return None
    return churn(assignment, other) - transfer(allocation_of(assignment, variants), allocation)


def choices(allocation, assignment, bucket):
    """Return the tuple of the variants that the bucket has in some least change."""
    check_change(allocation, assignment)
    check_bucket(bucket, len(assignment))
    # The buckets of a variant can be exchanged, so each of them can get what the first one can.
    return tuple(options(first_state(allocation, assignment), assignment[bucket]))
