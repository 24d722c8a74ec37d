"""Populations: shares that are allowed together, and which places of lists they use at the same time."""

from itertools import combinations

from leastmoved.checks import are_integers, check_variants, require
from leastmoved.priorities import are_lists

MOST_TUPLES = 5
GREATEST_SUM = 10
GREATEST_BUCKET = 1000


def is_tuple_of_shares(value, variants):
    """Return True if the value tells a share of each variant but the control, together at most 10."""
    return are_integers(value, 0, GREATEST_SUM) and len(value) == variants - 1 and sum(value) <= GREATEST_SUM


def is_family(value, variants):
    """Return True if the value is a family for so many variants."""
    check_variants(variants)
    if not isinstance(value, tuple) or not 1 <= len(value) <= MOST_TUPLES:
        return False
    return all([is_tuple_of_shares(shares, variants) for shares in value])


def check_family(variants, family):
    """Raise BadValue unless these are a number of variants and a family for them."""
    require(is_family(family, variants), "family")


def greatest_shares(family):
    """Return the list of the greatest shares of the variants from 1 on."""
    return [max([shares[place] for shares in family]) for place in range(len(family[0]))]


def entries_below(numbers):
    """Return the list of the entries whose places are less than the number of their variant, in ascending order."""
    found = []
    for variant, number in enumerate(numbers, start=1):
        found.extend([(variant, place) for place in range(number)])
    return found


def entries(variants, family):
    """Return the list of the entries, in ascending order."""
    check_family(variants, family)
    return entries_below(greatest_shares(family))


def is_entry(value, places):
    """Return True if the value is one of these entries."""
    # True is no integer here, though it is equal to 1.
    return are_integers(value, 0, GREATEST_SUM) and value in places


def is_used(shares, entry):
    """Return True if the shares use the entry."""
    variant, place = entry
    return shares[variant - 1] > place


def are_together(family, one, two):
    """Return True if the entries are different and some allowed shares use both."""
    return one != two and any([is_used(shares, one) and is_used(shares, two) for shares in family])


def coexist(variants, family, first, second):
    """Return True if the two entries coexist."""
    places = entries(variants, family)
    require(is_entry(first, places), "first")
    require(is_entry(second, places), "second")
    return are_together(family, first, second)


def all_heights(family):
    """Return the list of the heights, in order, in which each one is 0 or a share of its variant in the family."""
    rows = [()]
    for place in range(len(family[0])):
        heights = sorted(set([0] + [shares[place] for shares in family]))
        rows = [row + (height,) for row in rows for height in heights]
    return rows


def is_clique(family, heights):
    """Return True if the heights stand for a clique."""
    # Lower places of a variant are used whenever its highest one is.
    tops = [(variant, height - 1) for variant, height in enumerate(heights, start=1) if height > 0]
    return all([are_together(family, one, two) for one, two in combinations(tops, 2)])


def greatest_clique(variants, family):
    """Return the greatest number of entries of a clique, and the first heights that stand for so many."""
    check_family(variants, family)
    # Between two shares of the family a height can grow without losing anything, so it is not the greatest.
    found = [heights for heights in all_heights(family) if is_clique(family, heights)]
    best = max(found, key=sum)
    return (sum(best), best)


def first_fault(shares, lists):
    """Return the variants, and the bucket, for which the lists do not serve the shares, or None."""
    for variant, row in enumerate(lists, start=1):
        if len(row) < shares[variant - 1]:
            return ((variant,), None)
    heads = [row[:share] for row, share in zip(lists, shares)]
    for one, two in combinations(range(len(heads)), 2):
        common = [bucket for bucket in heads[one] if bucket in heads[two]]
        if common:
            return ((one + 1, two + 1), min(common))
    return None


def fault(variants, family, lists):
    """Return the first shares of the family that the lists do not serve, with the reason, or None."""
    check_family(variants, family)
    require(are_lists(lists, variants - 1, GREATEST_BUCKET + 1), "lists")
    for index, shares in enumerate(family):
        found = first_fault(shares, lists)
        if found is not None:
            return (index,) + found
    return None
