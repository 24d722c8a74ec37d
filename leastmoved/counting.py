"""Least changes by their number in the order of tuples, without listing them."""

from leastmoved.changes import check_bucket, check_change, check_sized, excess
from leastmoved.checks import is_integer, require
from leastmoved.steps import first_state, first_way, options, state_after, ways


def count_changes(allocation, assignment):
    """Return the number of least changes."""
    check_change(allocation, assignment)
    return ways(first_state(allocation, assignment))


def picked(state, old, index):
    """Return the next bucket's variant in the way with this index, and the index among the ways with it."""
    for new in options(state, old):
        number = ways(state_after(state, old, new))
        if index < number:
            break
        index -= number
    return (new, index)


def nth_change(allocation, assignment, index):
    """Return the least change with this index."""
    check_change(allocation, assignment)
    state = first_state(allocation, assignment)
    require(is_integer(index, 0, ways(state) - 1), "index")
    news = []
    for old in assignment:
        new, index = picked(state, old, index)
        state = state_after(state, old, new)
        news.append(new)
    return tuple(news)


def index_of(allocation, assignment, other):
    """Return the index of the other assignment, or None if it is no least change."""
    if excess(allocation, assignment, other) != 0:
        return None
    state = first_state(allocation, assignment)
    index = 0
    for old, new in zip(assignment, other):
        lesser = [variant for variant in options(state, old) if variant < new]
        index += sum([ways(state_after(state, old, variant)) for variant in lesser])
        state = state_after(state, old, new)
    return index


def next_change(allocation, assignment, other, bucket):
    """Return the first least change after the other one that differs from it up to the bucket, or None."""
    require(excess(allocation, assignment, other) == 0, "other")
    check_bucket(bucket, len(assignment))
    state = first_state(allocation, assignment)
    found = None
    for place in range(bucket + 1):
        old = assignment[place]
        greater = [variant for variant in options(state, old) if variant > other[place]]
        if greater:
            # The later the first difference is, the sooner the change comes, so the last place counts.
            new = greater[0]
            found = other[:place] + (new,) + first_way(state_after(state, old, new), assignment[place + 1:])
        state = state_after(state, old, other[place])
    return found
