"""Assignments of a further allocation that extend a minimal table."""

from leastmoved.allocations import is_allocation
from leastmoved.assignments import allocation_of
from leastmoved.changes import check_bucket
from leastmoved.checks import require
from leastmoved.fitting import first_fit, first_shortage, is_shortage
from leastmoved.priorities import unlike_pair


def check_extending(variants, table, allocation):
    """Raise BadValue unless these are a minimal table to so many variants and an allocation of its size."""
    require(unlike_pair(variants, table) is None, "table")
    require(is_allocation(allocation, variants, len(table[0])), "allocation")


def is_allowed(rows, allocation, bucket, variant):
    """Return True if the variant is allowed; the rows are pairs of an assignment and its allocation."""
    for assignment, shares in rows:
        own = assignment[bucket]
        if own != variant and not (shares[variant] < allocation[variant] and shares[own] > allocation[own]):
            return False
    return True


def allowed_for_all(variants, table, allocation):
    """Return the list of the tuples of the allowed variants of each bucket."""
    rows = [(assignment, allocation_of(assignment, variants)) for assignment in table]
    found = []
    for bucket in range(len(table[0])):
        found.append(tuple([v for v in range(variants) if is_allowed(rows, allocation, bucket, v)]))
    return found


def allowed(variants, table, allocation, bucket):
    """Return the ascending tuple of the variants that are allowed for the bucket."""
    check_extending(variants, table, allocation)
    check_bucket(bucket, len(table[0]))
    return allowed_for_all(variants, table, allocation)[bucket]


def extension(variants, table, allocation):
    """Return the first assignment of the allocation that extends the table, or None."""
    check_extending(variants, table, allocation)
    return first_fit(allocation, allowed_for_all(variants, table, allocation))


def obstruction(variants, table, allocation):
    """Return the first obstruction, or None if some assignment extends the table."""
    check_extending(variants, table, allocation)
    return first_shortage(allocation, allowed_for_all(variants, table, allocation))


def is_obstruction(variants, table, allocation, value):
    """Return True if the value is an obstruction, otherwise False."""
    check_extending(variants, table, allocation)
    return is_shortage(allocation, allowed_for_all(variants, table, allocation), value)
