"""Plans: allocations, and the pairs of them between which changes will really be made."""

from itertools import combinations, permutations

from leastmoved.allocations import are_allocations
from leastmoved.assignments import are_assignments_of, ascending
from leastmoved.checks import are_integers, require
from leastmoved.errors import TooLarge
from leastmoved.triples import excess

MOST_ALLOCATIONS = 6
MOST_CELLS = 12


def is_pair(value, many):
    """Return True if the value is an ascending pair of different indexes below this number."""
    return are_integers(value, 0, many - 1) and len(value) == 2 and value[0] < value[1]


def are_pairs(value, many):
    """Return True if the value is a tuple of different pairs of indexes."""
    # Six allocations have no more than 15 pairs, so different ones are not too many.
    if not isinstance(value, tuple) or not all([is_pair(pair, many) for pair in value]):
        return False
    return len(set(value)) == len(value)


def check_plan(allocations, pairs):
    """Raise BadValue unless these are the allocations and the pairs of a plan."""
    require(are_allocations(allocations, MOST_ALLOCATIONS), "allocations")
    require(are_pairs(pairs, len(allocations)), "pairs")


def check_search(allocations, pairs):
    """Raise an error unless these are a plan that is small enough for a search."""
    check_plan(allocations, pairs)
    if sum(allocations[0]) * len(allocations) > MOST_CELLS:
        raise TooLarge("search")


def are_joined(pairs, one, two):
    """Return True if the two allocations are a pair of the plan."""
    return (min(one, two), max(one, two)) in pairs


def is_cycle(pairs, indexes):
    """Return True if each of the allocations is joined with the next one, and the last one with the first one."""
    return all([are_joined(pairs, indexes[at - 1], indexes[at]) for at in range(len(indexes))])


def first_cycle(allocations, pairs):
    """Return the first one of the shortest cycles, or None."""
    check_plan(allocations, pairs)
    for many in range(3, len(allocations) + 1):
        for indexes in permutations(range(len(allocations)), many):
            if is_cycle(pairs, indexes):
                return indexes
    return None


def bad_triples(allocations, pairs):
    """Return the list of the triples that are joined pairwise and cannot be kept pairwise."""
    check_plan(allocations, pairs)
    found = []
    for one, two, three in combinations(range(len(allocations)), 3):
        if is_cycle(pairs, (one, two, three)) and excess(allocations[one], allocations[two], allocations[three]) > 0:
            found.append((one, two, three))
    return found


def is_wasted(before, after, old, new):
    """Return True if a bucket moves needlessly that has these variants before and after."""
    return old != new and (after[old] >= before[old] or after[new] <= before[new])


def keeps(allocations, pair, table):
    """Return True if the table keeps the pair of allocations."""
    one, two = pair
    before, after = allocations[one], allocations[two]
    return not any([is_wasted(before, after, old, new) for old, new in zip(table[one], table[two])])


def kept_by(allocations, pairs, table):
    """Return the ascending tuple of the indexes of the pairs that the table keeps."""
    return tuple([index for index, pair in enumerate(pairs) if keeps(allocations, pair, table)])


def kept_pairs(allocations, pairs, table):
    """Return the set of the pairs that the table keeps, as the ascending tuple of their indexes."""
    check_plan(allocations, pairs)
    require(are_assignments_of(table, allocations), "table")
    return kept_by(allocations, pairs, table)


def all_assignments(allocation):
    """Return the list of all assignments of the allocation, in order."""
    rows = [()]
    for _ in range(sum(allocation)):
        longer = []
        for row in rows:
            longer.extend([row + (variant,) for variant, share in enumerate(allocation) if row.count(variant) < share])
        rows = longer
    return rows


def all_tables(allocations):
    """Return the list of all tables with the first assignment of the first allocation, in order.

    The others are these with their buckets rearranged. So they keep nothing else, and they come later.
    """
    tables = [(ascending(allocations[0]),)]
    for allocation in allocations[1:]:
        rows = all_assignments(allocation)
        tables = [table + (row,) for table in tables for row in rows]
    return tables


def first_table(allocations, pairs):
    """Return the first table that keeps all pairs, or None."""
    check_search(allocations, pairs)
    for table in all_tables(allocations):
        if len(kept_by(allocations, pairs, table)) == len(pairs):
            return table
    return None
