"""What the tests compare with: everything of a small size, listed in order."""

from fractions import Fraction
from itertools import product


def all_assignments(variants, buckets):
    return list(product(range(variants), repeat=buckets))


def all_allocations(variants, buckets):
    return [shares for shares in product(range(buckets + 1), repeat=variants) if sum(shares) == buckets]


def shares_of(assignment, variants):
    """The allocation, counted without the program."""
    shares = [0] * variants
    for variant in assignment:
        shares[variant] += 1
    return tuple(shares)


def assignments_of(allocation):
    """All assignments of the allocation, in order."""
    everything = all_assignments(len(allocation), sum(allocation))
    return [assignment for assignment in everything if shares_of(assignment, len(allocation)) == allocation]


def moved(first, second):
    """The churn, counted without the program."""
    count = 0
    for bucket in range(len(first)):
        if first[bucket] != second[bucket]:
            count += 1
    return count


def lost(first, second):
    """The transfer, counted without the program."""
    return sum(first[v] - second[v] for v in range(len(first)) if second[v] < first[v])


def distance(weights, allocation):
    """The deviation as a fraction."""
    quotas = [Fraction(sum(allocation) * weight, sum(weights)) for weight in weights]
    return sum(abs(share - quota) for share, quota in zip(allocation, quotas))


def least_changes(allocation, assignment):
    """All least changes, in order, found by their churn."""
    least = lost(shares_of(assignment, len(allocation)), allocation)
    return [other for other in assignments_of(allocation) if moved(assignment, other) == least]


def is_least(variants, first, second):
    """The change between two assignments is least, told by churn and transfer."""
    return moved(first, second) == lost(shares_of(first, variants), shares_of(second, variants))


def is_minimal_table(variants, table):
    places = range(len(table))
    return all(is_least(variants, table[i], table[j]) for i in places for j in places if i < j)


def subsets(many):
    """All ascending tuples of integers below this number, shorter ones first."""
    found = [tuple(k for k in range(many) if mask >> k & 1) for mask in range(2 ** many)]
    return sorted(found, key=lambda chosen: (len(chosen), chosen))


def middles(three):
    """The medians, told as point 10 does."""
    return tuple(sorted(shares)[1] for shares in zip(*three))


def tables_of(allocations):
    """All tuples of an assignment of each allocation, in order."""
    return list(product(*[assignments_of(allocation) for allocation in allocations]))


def keeps_pair(allocations, pair, table):
    """The table is minimal for the pair, told by churn and transfer."""
    i, j = pair
    return moved(table[i], table[j]) == lost(allocations[i], allocations[j])


def kept_indexes(allocations, pairs, table):
    return tuple(index for index, pair in enumerate(pairs) if keeps_pair(allocations, pair, table))


def histories_of(allocations):
    """All histories, in order."""
    found = [(row,) for row in assignments_of(allocations[0])]
    for before, after in zip(allocations, allocations[1:]):
        rows = assignments_of(after)
        found = [known + (row,) for known in found for row in rows if moved(known[-1], row) == lost(before, after)]
    return found


def leaving(one, two, bucket):
    """The bucket leaves needlessly from the one pair of a rule to the other one, as promise 80 tells it."""
    (shares, assignment), (other_shares, other) = one, two
    w = assignment[bucket]
    return w != 0 and other[bucket] != w and other_shares[w] >= shares[w]


def is_steady(rule):
    """No bucket leaves needlessly for any two pairs."""
    return not any(leaving(one, two, b) for one in rule for two in rule for b in range(len(one[1])))


def allowed_shares(family):
    """All shares that the family allows."""
    width = len(family[0])
    greatest = max([0] + [share for shares in family for share in shares])
    everything = product(range(greatest + 1), repeat=width)
    return [shares for shares in everything if any(all(a <= b for a, b in zip(shares, each)) for each in family)]


def entries_of(family):
    """All entries that some allowed shares use, ascending."""
    return sorted({(v, i) for shares in allowed_shares(family) for v, share in enumerate(shares, 1) for i in range(share)})


def together(family, one, two):
    """The entries coexist, told by the allowed shares."""
    return one != two and any(shares[one[0] - 1] > one[1] and shares[two[0] - 1] > two[1] for shares in allowed_shares(family))


def pairings(variants, buckets):
    """All pairs of a bucket and a variant, ascending."""
    return list(product(range(buckets), range(variants)))


def chosen_of(things):
    """All tuples of some of the things, in their order, those with fewer first."""
    return [tuple(things[k] for k in places) for places in subsets(len(things))]


def possible_ones(allocation, forbidden, pins=()):
    """All possible assignments that keep the pins, in order, as promises 111 and 115 tell them."""
    rows = assignments_of(allocation)
    rows = [row for row in rows if not any(row[b] == v for b, v in forbidden)]
    return [row for row in rows if all(row[b] == v for b, v in pins)]


def kept_in(first, second):
    """The number of buckets with the same variant in both."""
    return len(first) - moved(first, second)


def bound_told(allocation, held, forbidden, pins, levels):
    """The bound, as promises 116 and 118 tell it."""
    total = sum(share * level for share, level in zip(allocation, levels))
    pinned = dict(pins)
    for b, old in enumerate(held):
        own = [v for v in range(len(allocation)) if (b, v) not in forbidden and pinned.get(b, v) == v]
        if not own:
            return None
        total += max((1 if v == old else 0) - levels[v] for v in own)
    return total
