"""Histories: allocations one after another, and assignments whose changes are all least."""

from leastmoved.allocations import are_allocations, transfer
from leastmoved.assignments import allocation_of, are_assignments_of, ascending, churn
from leastmoved.changes import first_change
from leastmoved.checks import is_integer, require
from leastmoved.errors import TooLarge
from leastmoved.limiting import first_within
from leastmoved.steps import first_state, first_way

MOST_ALLOCATIONS = 10
GREATEST_LIMIT = 9
MOST_TO_SEARCH = 6


def check_steps(allocations):
    """Raise BadValue unless these are 1 to 10 allocations of the same size."""
    require(are_allocations(allocations, MOST_ALLOCATIONS), "allocations")


def check_search(allocations):
    """Raise TooLarge unless the allocations are small enough for a search."""
    if len(allocations) > MOST_TO_SEARCH or sum(allocations[0]) > MOST_TO_SEARCH:
        raise TooLarge("search")


def steps_of(parts):
    """Return the list of the pairs of each part and the next one."""
    return list(zip(parts, parts[1:]))


def total(allocations):
    """Return the sum of the transfers of all steps."""
    check_steps(allocations)
    return sum([transfer(before, after) for before, after in steps_of(allocations)])


def direct(allocations):
    """Return the transfer from the first allocation to the last one."""
    check_steps(allocations)
    return transfer(allocations[0], allocations[-1])


def turn_of(shares):
    """Return the first step at which a share turns that has these values one after another, or None."""
    has_grown = False
    has_shrunk = False
    for step, (before, after) in enumerate(steps_of(shares)):
        if (after > before and has_shrunk) or (after < before and has_grown):
            return step
        has_grown = has_grown or after > before
        has_shrunk = has_shrunk or after < before
    return None


def first_turn(allocations):
    """Return the pair of the least variant whose share turns and its first turn, or None."""
    check_steps(allocations)
    for variant in range(len(allocations[0])):
        step = turn_of([allocation[variant] for allocation in allocations])
        if step is not None:
            return (variant, step)
    return None


def decreases(allocations):
    """Return the tuple of the sums of the decreases of the variants."""
    check_steps(allocations)
    steps = steps_of(allocations)
    variants = range(len(allocations[0]))
    return tuple([sum([max(before[v] - after[v], 0) for before, after in steps]) for v in variants])


def overdrawn(allocations):
    """Return the least variant that loses more buckets than it has at first, or None."""
    for variant, lost in enumerate(decreases(allocations)):
        if lost > allocations[0][variant]:
            return variant
    return None


def first_history(allocations):
    """Return the first history."""
    check_steps(allocations)
    history = [ascending(allocations[0])]
    for allocation in allocations[1:]:
        # Every assignment has a least change, so the first one never leads into a dead end.
        history.append(first_change(allocation, history[-1]))
    return tuple(history)


def first_wrong(allocations, table):
    """Return the first step at which the change is not least, or None."""
    for step, (old, new) in enumerate(steps_of(table)):
        if churn(old, new) != transfer(allocations[step], allocations[step + 1]):
            return step
    return None


def wrong_step(allocations, table):
    """Return the first step at which the change is not least, or None if the table is a history."""
    check_steps(allocations)
    require(are_assignments_of(table, allocations), "table")
    return first_wrong(allocations, table)


def changes_of(allocations, history):
    """Return the tuple of the numbers of changes of the buckets."""
    check_steps(allocations)
    is_history = are_assignments_of(history, allocations) and first_wrong(allocations, history) is None
    require(is_history, "history")
    steps = steps_of(history)
    buckets = range(len(history[0]))
    return tuple([sum([old[bucket] != new[bucket] for old, new in steps]) for bucket in buckets])


def calm_change(allocation, start, assignment):
    """Return the first least change in which only buckets move that still have their variant of the start."""
    _, leaving, entering = first_state(allocation, assignment)
    fresh = [bucket for bucket, variant in enumerate(assignment) if variant == start[bucket]]
    olds = tuple([assignment[bucket] for bucket in fresh])
    news = first_way((allocation_of(olds, len(allocation)), leaving, entering), olds)
    changed = list(assignment)
    for bucket, variant in zip(fresh, news):
        changed[bucket] = variant
    return tuple(changed)


def calm_history(allocations):
    """Return the first history in which no bucket changes more than once, or None."""
    if overdrawn(allocations) is not None:
        return None
    history = [ascending(allocations[0])]
    for allocation in allocations[1:]:
        # Whichever buckets have moved, each variant still has as many fresh ones as it has to lose.
        history.append(calm_change(allocation, history[0], history[-1]))
    return tuple(history)


def within(allocations, limit):
    """Return the first history in which no bucket changes more often than the limit says, or None."""
    check_steps(allocations)
    require(is_integer(limit, 0, GREATEST_LIMIT), "limit")
    check_search(allocations)
    return first_within(allocations, limit)


def least_limit(allocations):
    """Return a pair of the least limit within which there is a history, and the first such history."""
    check_steps(allocations)
    check_search(allocations)
    limit = 0
    history = first_within(allocations, limit)
    while history is None:
        limit += 1
        history = first_within(allocations, limit)
    return (limit, history)
