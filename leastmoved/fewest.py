"""The fewest buckets of a family, and the evidence for them."""

from leastmoved.cases import is_right_tree
from leastmoved.checks import MOST_BUCKETS, check_variants, is_integer, require
from leastmoved.errors import TooLarge
from leastmoved.populations import are_together, entries, entries_below
from leastmoved.populations import fault, greatest_clique, greatest_shares
from leastmoved.priorities import are_lists

MOST_ENTRIES = 9
MOST_FEW = 100


def first_buckets(neighbours, many, found):
    """Return the first tuple of buckets that goes on from the found ones, with so many buckets, or None.

    The neighbours of an entry are the earlier entries with which it coexists.
    """
    if len(found) == len(neighbours):
        return found
    taken = [found[place] for place in neighbours[len(found)]]
    # Buckets that no entry has yet are alike, so the first one of them stands for all.
    for bucket in range(min(many, max(found, default=-1) + 2)):
        if bucket not in taken:
            whole = first_buckets(neighbours, many, found + (bucket,))
            if whole is not None:
                return whole
    return None


def earlier_neighbours(family, places):
    """Return the list of the lists of the earlier entries with which each entry coexists."""
    found = []
    for number, entry in enumerate(places):
        found.append([earlier for earlier in range(number) if are_together(family, places[earlier], entry)])
    return found


def parted(family, buckets):
    """Return the lists of the variants that have these buckets one after another."""
    lists = []
    begin = 0
    for share in greatest_shares(family):
        lists.append(buckets[begin:begin + share])
        begin += share
    return tuple(lists)


def fewest(variants, family):
    """Return evidence of the fewest buckets: their number, the first lists, and a case tree or None."""
    places = entries(variants, family)
    if len(places) > MOST_ENTRIES:
        raise TooLarge("entries")
    # A lower entry of a variant coexists with all that a higher one coexists with, and there are at most four
    # variants. So entries form no odd rings without chords, nor complements of such: their graph is perfect,
    # and the fewest buckets are as many as the greatest clique has entries.
    many, heights = greatest_clique(variants, family)
    buckets = first_buckets(earlier_neighbours(family, places), many, ())
    tree = ("clique", tuple(entries_below(heights))) if many > 0 else None
    return (many, parted(family, buckets), tree)


def accepts_few(variants, family, few, tree):
    """Return True if the tree is a case tree that shows that so many buckets are too few."""
    places = entries(variants, family)
    require(is_integer(few, 0, MOST_FEW), "few")
    return is_right_tree(family, places, few, tree)


def accepts_fewest(variants, family, evidence):
    """Return True if the value is evidence of the fewest buckets."""
    places = entries(variants, family)
    if not isinstance(evidence, tuple) or len(evidence) != 3:
        return False
    many, lists, tree = evidence
    # More buckets than entries are never the fewest.
    if not is_integer(many, 0, len(places)) or not are_lists(lists, variants - 1, many):
        return False
    if fault(variants, family, lists) is not None:
        return False
    if many == 0:
        return tree is None
    return is_right_tree(family, places, many - 1, tree)


def check_sum(variants, total):
    """Raise BadValue unless these are a number of variants and a sum of shares."""
    check_variants(variants)
    require(is_integer(total, 0, MOST_BUCKETS), "total")


def needed(variants, total):
    """Return the fewest buckets for all shares with at most this sum."""
    check_sum(variants, total)
    if variants == 1:
        return 0
    if variants == 2:
        return total
    return (variants - 1) * (total // 2) + total % 2


def own_part(variants, total, variant):
    """Return the first half of the list of the variant, and the bucket in the middle if there is one."""
    half = total // 2
    middle = [(variants - 1) * half] * (total % 2)
    return list(range((variant - 1) * half, variant * half)) + middle


def lists_for(variants, total):
    """Return lists with the fewest buckets that serve all shares with at most this sum."""
    check_sum(variants, total)
    if variants == 2:
        return (tuple(range(total)),)
    lists = []
    for variant in range(1, variants):
        # The second half is the first half of the next variant backwards, so two variants never use both.
        following = 1 + variant % (variants - 1)
        borrowed = own_part(variants, total - total % 2, following)
        lists.append(tuple(own_part(variants, total, variant) + borrowed[::-1]))
    return tuple(lists)
