"""Plans whose pairs cannot all be kept: what can be kept, what is in conflict, and trees as evidence."""

from itertools import combinations

from leastmoved.errors import TooLarge
from leastmoved.plans import all_tables, check_plan, check_search, first_table, kept_by
from leastmoved.trees import MOST_NODES, full_tree, is_right_tree


def most_pairs(allocations, pairs):
    """Return a pair of the largest set of pairs that some table keeps, and the first table that keeps it."""
    check_search(allocations, pairs)
    found = [(kept_by(allocations, pairs, table), table) for table in all_tables(allocations)]
    return min(found, key=lambda row: (-len(row[0]), row[0]))


def is_inside(chosen, kept):
    """Return True if all chosen pairs are among those that are kept."""
    return all([index in kept for index in chosen])


def least_conflict(allocations, pairs):
    """Return the smallest set of pairs that no table keeps, or None if some table keeps all pairs."""
    if first_table(allocations, pairs) is not None:
        return None
    kept_sets = sorted(set([kept_by(allocations, pairs, table) for table in all_tables(allocations)]))
    for many in range(1, len(pairs) + 1):
        for chosen in combinations(range(len(pairs)), many):
            if not any([is_inside(chosen, kept) for kept in kept_sets]):
                return chosen
    return None


def tree_against(allocations, pairs):
    """Return an accepted tree, or None if some table keeps all pairs."""
    if first_table(allocations, pairs) is not None:
        return None
    tree, nodes = full_tree(allocations, pairs)
    if nodes > MOST_NODES:
        raise TooLarge("tree")
    return tree


def accepts_tree(allocations, pairs, tree):
    """Return True if the tree is accepted as evidence that no table keeps all pairs."""
    check_plan(allocations, pairs)
    return is_right_tree(allocations, pairs, tree)
