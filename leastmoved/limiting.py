"""Histories in which no bucket changes more often than a limit says.

The spare of a bucket is the number of changes that are still left for it.
"""

from leastmoved.assignments import ascending
from leastmoved.steps import first_state, options, state_after


def least_changes(allocation, assignment, spare):
    """Return the list of the least changes, in order, in which only buckets with a spare move."""
    found = [((), first_state(allocation, assignment))]
    for old, left in zip(assignment, spare):
        longer = []
        for news, state in found:
            for new in options(state, old):
                if new == old or left > 0:
                    longer.append((news + (new,), state_after(state, old, new)))
        found = longer
    return [news for news, _ in found]


def spare_after(spare, old, new):
    """Return the spare of the buckets after a change of their variants."""
    return tuple([left if before == after else left - 1 for left, before, after in zip(spare, old, new)])


def way_on(allocations, assignment, spare, dead):
    """Return the first tuple of assignments of the allocations that go on from the assignment, or None.

    The dict dead keeps from where there is no way on.
    """
    if not allocations:
        return ()
    # No bucket changes more often than there are steps, and buckets with the same variant and spare are alike.
    capped = [min(left, len(allocations)) for left in spare]
    place = (len(allocations), tuple(sorted(zip(assignment, capped))))
    if place in dead:
        return None
    for change in least_changes(allocations[0], assignment, spare):
        rest = way_on(allocations[1:], change, spare_after(spare, assignment, change), dead)
        if rest is not None:
            return (change,) + rest
    dead[place] = True
    return None


def first_within(allocations, limit):
    """Return the first history in which no bucket changes more often than the limit says, or None."""
    start = ascending(allocations[0])
    rest = way_on(allocations[1:], start, (limit,) * len(start), {})
    return None if rest is None else (start,) + rest
