"""Tables of assignments, and the lists of buckets that give them."""

from itertools import combinations

from leastmoved.allocations import is_bounded_allocation
from leastmoved.assignments import buckets_of, is_assignment, is_bounded_assignment
from leastmoved.changes import is_minimal
from leastmoved.checks import MOST_BUCKETS, are_integers, check_variants, require

MOST_ASSIGNMENTS = 6


def is_table(value, variants):
    """Return True if the value is a table of 0 to 20 buckets to so many variants."""
    if not isinstance(value, tuple) or not 1 <= len(value) <= MOST_ASSIGNMENTS:
        return False
    if not is_bounded_assignment(value[0], variants):
        return False
    return all([is_assignment(assignment, variants, len(value[0])) for assignment in value])


def check_table(variants, table):
    """Raise BadValue unless these are a number of variants and a table to them."""
    check_variants(variants)
    require(is_table(table, variants), "table")


def are_lists(value, variants, buckets):
    """Return True if the value is a tuple of a list for each variant, of buckets below this number."""
    if not isinstance(value, tuple) or len(value) != variants:
        return False
    return all([are_integers(row, 0, buckets - 1) and len(set(row)) == len(row) for row in value])


def unlike_pair(variants, table):
    """Return the first pair of indexes between which the change is not least, or None."""
    check_table(variants, table)
    for one, two in combinations(range(len(table)), 2):
        if not is_minimal(variants, table[one], table[two]):
            return (one, two)
    return None


def short_list(table, variant):
    """Return the list of the variant: what it has with its least share, then what each greater one adds."""
    found = []
    for row in sorted([buckets_of(assignment, variant) for assignment in table], key=len):
        found.extend([bucket for bucket in row if bucket not in found])
    return tuple(found)


def first_list(table, variant):
    """Return the full list of the variant, with the buckets behind that it never has."""
    found = short_list(table, variant)
    return found + tuple([bucket for bucket in range(len(table[0])) if bucket not in found])


def first_lists(variants, table):
    """Return the tuple of the first lists, or None if the table is not minimal."""
    if unlike_pair(variants, table) is not None:
        return None
    return tuple([first_list(table, variant) for variant in range(variants)])


def fits(row, buckets):
    """Return True if these buckets, ascending, are the first ones of the list."""
    return sorted(row[:len(buckets)]) == buckets


def gives(variants, table, lists):
    """Return True if the lists give the table, otherwise False."""
    check_table(variants, table)
    if not are_lists(lists, variants, len(table[0])):
        return False
    for assignment in table:
        if not all([fits(row, buckets_of(assignment, variant)) for variant, row in enumerate(lists)]):
            return False
    return True


def served(variants, lists, allocation):
    """Return the assignment that the lists give the allocation, or None if they give none."""
    check_variants(variants)
    require(are_lists(lists, variants, MOST_BUCKETS), "lists")
    require(is_bounded_allocation(allocation) and len(allocation) == variants, "allocation")
    owners = {}
    for variant, share in enumerate(allocation):
        for bucket in lists[variant][:share]:
            owners[bucket] = variant
    # A list that is too short, or a bucket that two lists begin with, leaves some bucket without a variant.
    if not all([bucket in owners for bucket in range(sum(allocation))]):
        return None
    return tuple([owners[bucket] for bucket in range(sum(allocation))])
