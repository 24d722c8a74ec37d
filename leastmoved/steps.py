"""Least changes that take shape bucket by bucket.

A state is a triple of tuples. For each variant they tell how many of the buckets that
are still to come have it, how many of these have to leave it, and how many buckets
have to enter it.
"""

from math import comb

from leastmoved.assignments import allocation_of


def first_state(allocation, assignment):
    """Return the state before the first bucket."""
    left = allocation_of(assignment, len(allocation))
    leaving = tuple([max(old - new, 0) for old, new in zip(left, allocation)])
    entering = tuple([max(new - old, 0) for old, new in zip(left, allocation)])
    return (left, leaving, entering)


def options(state, old):
    """Return the list of the variants, ascending, that the next bucket can get if it has this one."""
    left, leaving, entering = state
    if leaving[old] == 0:
        return [old]
    found = [variant for variant, many in enumerate(entering) if many > 0]
    if leaving[old] < left[old]:
        found.append(old)
    return sorted(found)


def one_less(numbers, place):
    """Return the tuple with the number at the place less by 1."""
    return numbers[:place] + (numbers[place] - 1,) + numbers[place + 1:]


def state_after(state, old, new):
    """Return the state after the next bucket has got the new variant for its old one."""
    left, leaving, entering = state
    if new == old:
        return (one_less(left, old), leaving, entering)
    return (one_less(left, old), one_less(leaving, old), one_less(entering, new))


def ways(state):
    """Return the number of ways in which the buckets that are still to come can change."""
    left, leaving, entering = state
    number = 1
    for many, few in zip(left, leaving):
        number *= comb(many, few)
    places = sum(entering)
    for many in entering:
        number *= comb(places, many)
        places -= many
    return number


def first_way(state, olds):
    """Return the first tuple of variants that the coming buckets can get for these old ones."""
    news = []
    for old in olds:
        new = options(state, old)[0]
        state = state_after(state, old, new)
        news.append(new)
    return tuple(news)
