"""Case trees, which show that some number of buckets is too few for a family.

What is known in a case is a pair of tuples. The first one tells the group of each entry, by its number: the
entries of a group have the same bucket. The second one tells for each group, as the bits of an integer, which
groups are known to have other buckets. Entries are told by their places in the list of the entries.
"""

from itertools import combinations

from leastmoved.checks import are_integers
from leastmoved.populations import are_together, is_entry

MOST_NODES = 2000


def bits_of(row):
    """Return the integer whose bits tell which parts of the row are True."""
    return sum([1 << place for place, holds in enumerate(row) if holds])


def known_at_root(family, places):
    """Return what is known at the root: entries that coexist have different buckets."""
    apart = [bits_of([are_together(family, one, two) for two in places]) for one in places]
    return (tuple(range(len(places))), tuple(apart))


def has_bit(bits, place):
    """Return True if the bit at the place is set."""
    return bits >> place & 1 == 1


def are_alike(known, one, two):
    """Return True if the two entries are known to have the same bucket."""
    groups, _ = known
    return groups[one] == groups[two]


def are_apart(known, one, two):
    """Return True if the two entries are known to have different buckets."""
    groups, apart = known
    return has_bit(apart[groups[one]], groups[two])


def is_open(known, one, two):
    """Return True if it is not known whether the two entries have the same bucket or different ones."""
    return not are_alike(known, one, two) and not are_apart(known, one, two)


def known_unlike(known, one, two):
    """Return what is known if the two entries have different buckets."""
    groups, apart = known
    rows = list(apart)
    rows[groups[one]] |= 1 << groups[two]
    rows[groups[two]] |= 1 << groups[one]
    return (groups, tuple(rows))


def known_alike(known, one, two):
    """Return what is known if the two entries have the same bucket."""
    groups, apart = known
    kept, gone = groups[one], groups[two]
    rows = [row | (1 << kept) if has_bit(row, gone) else row for row in apart]
    rows[kept] |= apart[gone]
    return (tuple([kept if group == gone else group for group in groups]), tuple(rows))


def is_right_clique(known, places, chosen, few):
    """Return True if the value is a tuple of more than so many entries that are known to have different buckets."""
    if not isinstance(chosen, tuple) or not few < len(chosen) <= len(places):
        return False
    if not all([is_entry(entry, places) for entry in chosen]):
        return False
    numbers = [places.index(entry) for entry in chosen]
    return all([are_apart(known, one, two) for one, two in combinations(numbers, 2)])


def is_right_fork(known, places, first, second):
    """Return True if the values are two entries of which nothing is known."""
    if not is_entry(first, places) or not is_entry(second, places):
        return False
    return is_open(known, places.index(first), places.index(second))


def cases_after(known, places, node, few):
    """Return the list of the pairs of a tree and what is known there, or None if the node is wrong."""
    if not isinstance(node, tuple):
        return None
    if len(node) == 2 and node[0] == "clique" and is_right_clique(known, places, node[1], few):
        return []
    if len(node) != 5 or node[0] != "cases" or not is_right_fork(known, places, node[1], node[2]):
        return None
    one, two = places.index(node[1]), places.index(node[2])
    return [(node[3], known_alike(known, one, two)), (node[4], known_unlike(known, one, two))]


def is_right_tree(family, places, few, tree):
    """Return True if the value is a case tree that shows that so many buckets are too few."""
    waiting = [(tree, known_at_root(family, places))]
    nodes = 0
    while waiting and nodes < MOST_NODES:
        node, known = waiting.pop()
        nodes += 1
        after = cases_after(known, places, node, few)
        if after is None:
            return False
        waiting.extend(after)
    return not waiting
