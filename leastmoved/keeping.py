"""Possible assignments that keep as many buckets as they can, and levels that show that none keeps more."""

from leastmoved.changes import check_change
from leastmoved.checks import are_integers, require
from leastmoved.exclusions import are_pairings, check_forbidden, is_among, open_variants
from leastmoved.fitting import first_fit, first_shortage

GREATEST_LEVEL = 1000


def are_pins(value, variants, buckets):
    """Return True if the value is a tuple of pins of so many buckets and variants."""
    if not are_pairings(value, variants, buckets):
        return False
    return len(set([bucket for bucket, _ in value])) == len(value)


def are_levels(value, variants):
    """Return True if the value is a tuple of a level for each variant, within the bounds."""
    return are_integers(value, -GREATEST_LEVEL, GREATEST_LEVEL) and len(value) == variants


def check_keeping(allocation, assignment, forbidden, pins):
    """Raise BadValue unless these are what assignments have to keep and to avoid."""
    check_change(allocation, assignment)
    check_forbidden(allocation, forbidden)
    require(are_pins(pins, len(allocation), sum(allocation)), "pins")


def left_open(allocation, forbidden, pins):
    """Return the list of the tuples of the variants that the buckets can have, of which pins leave one at most."""
    found = open_variants(allocation, forbidden)
    for bucket, variant in pins:
        found[bucket] = (variant,) if variant in found[bucket] else ()
    return found


def worth(held, levels, variant):
    """Return what the variant is worth for a bucket that holds this one: whether it is kept, less the level."""
    return int(variant == held) - levels[variant]


def greatest_worth(own, held, levels):
    """Return what the best one of its own variants is worth for a bucket that holds this one."""
    return max([worth(held, levels, variant) for variant in own])


def best_variants(can_have, assignment, levels):
    """Return the list of the tuples of those variants that the buckets can have and that are worth most to them."""
    found = []
    for own, held in zip(can_have, assignment):
        most = greatest_worth(own, held, levels)
        found.append(tuple([variant for variant in own if worth(held, levels, variant) == most]))
    return found


def bound(allocation, assignment, can_have, levels):
    """Return the bound by the levels, or None if some bucket can have no variant."""
    if () in can_have:
        return None
    total = sum([share * level for share, level in zip(allocation, levels)])
    return total + sum([greatest_worth(own, held, levels) for own, held in zip(can_have, assignment)])


def first_levels(allocation, assignment, can_have):
    """Return the first levels by which the bound is reached, or None if no assignment is possible."""
    if first_shortage(allocation, can_have) is not None:
        return None
    levels = (0,) * len(allocation)
    # An assignment reaches the bound exactly if each bucket has a variant that is worth most to it. Where a set of
    # variants is too small for that, raising its levels by 1 lowers the bound. As no smaller set is too small, each
    # of these levels has to rise to reach the bound, so none gets beyond the first levels that do.
    short = first_shortage(allocation, best_variants(can_have, assignment, levels))
    while short is not None:
        levels = tuple([level + 1 if variant in short[0] else level for variant, level in enumerate(levels)])
        short = first_shortage(allocation, best_variants(can_have, assignment, levels))
    return levels


def most_kept(allocation, assignment, forbidden, pins):
    """Return the greatest number of kept buckets and the first assignment that keeps so many, or None."""
    check_keeping(allocation, assignment, forbidden, pins)
    can_have = left_open(allocation, forbidden, pins)
    levels = first_levels(allocation, assignment, can_have)
    if levels is None:
        return None
    best = first_fit(allocation, best_variants(can_have, assignment, levels))
    return (bound(allocation, assignment, can_have, levels), best)


def bound_by(allocation, assignment, forbidden, pins, levels):
    """Return the bound by the levels, or None if there is none."""
    check_keeping(allocation, assignment, forbidden, pins)
    require(are_levels(levels, len(allocation)), "levels")
    return bound(allocation, assignment, left_open(allocation, forbidden, pins), levels)


def levels_for(allocation, assignment, forbidden, pins):
    """Return the first levels by which the bound is the greatest number of kept buckets, or None."""
    check_keeping(allocation, assignment, forbidden, pins)
    return first_levels(allocation, assignment, left_open(allocation, forbidden, pins))


def is_best(allocation, assignment, forbidden, pins, value, levels):
    """Return True if the value is possible and keeps as many buckets as the bound by the levels tells."""
    check_keeping(allocation, assignment, forbidden, pins)
    can_have = left_open(allocation, forbidden, pins)
    if not is_among(value, allocation, can_have) or not are_levels(levels, len(allocation)):
        return False
    kept = sum([new == old for new, old in zip(value, assignment)])
    return kept == bound(allocation, assignment, can_have, levels)
