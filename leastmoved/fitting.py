"""Assignments of an allocation in which each bucket has one of the variants that it can have.

The variants that the buckets can have are told as a list with an ascending tuple for each bucket.
"""

from itertools import combinations

from leastmoved.checks import are_integers


def variant_sets(variants):
    """Return the list of all sets of variants, as ascending tuples, those with fewer variants first."""
    found = []
    for many in range(variants + 1):
        for chosen in combinations(range(variants), many):
            found.append(chosen)
    return found


def is_inside(own, chosen):
    """Return True if all of the bucket's own variants are among the chosen ones."""
    return all([variant in chosen for variant in own])


def room(shares, chosen):
    """Return how many buckets the chosen variants have together."""
    return sum([shares[variant] for variant in chosen])


def confined(can_have, chosen):
    """Return the tuple of the buckets that can have none but the chosen variants."""
    return tuple([bucket for bucket, own in enumerate(can_have) if is_inside(own, chosen)])


def first_shortage(shares, can_have):
    """Return the first set of variants that is too small, with all buckets that need it, or None."""
    for chosen in variant_sets(len(shares)):
        buckets = confined(can_have, chosen)
        if len(buckets) > room(shares, chosen):
            return (chosen, buckets)
    return None


def are_ascending(value, many):
    """Return True if the value is an ascending tuple of different integers from 0 to many - 1."""
    return are_integers(value, 0, many - 1) and list(value) == sorted(set(value))


def is_shortage(shares, can_have, value):
    """Return True if the value is a set of variants with more buckets that need it than it has."""
    if not isinstance(value, tuple) or len(value) != 2:
        return False
    chosen, buckets = value
    if not are_ascending(chosen, len(shares)) or not are_ascending(buckets, len(can_have)):
        return False
    if not all([is_inside(can_have[bucket], chosen) for bucket in buckets]):
        return False
    return len(buckets) > room(shares, chosen)


def spare_after(sets, spare, own, variant):
    """Return what the sets have to spare after a bucket that can have its own variants takes this one."""
    spent = [variant in chosen and not is_inside(own, chosen) for chosen in sets]
    return [have - 1 if loses else have for have, loses in zip(spare, spent)]


def first_fit(shares, can_have):
    """Return the first assignment in which each bucket has a variant that it can have, or None."""
    sets = variant_sets(len(shares))
    spare = [room(shares, chosen) - len(confined(can_have, chosen)) for chosen in sets]
    if min(spare) < 0:
        return None
    found = []
    for own in can_have:
        # The buckets behind fit exactly if no set has fewer places left than buckets that need it.
        fitting = [variant for variant in own if min(spare_after(sets, spare, own, variant)) >= 0]
        spare = spare_after(sets, spare, own, fitting[0])
        found.append(fitting[0])
    return tuple(found)
