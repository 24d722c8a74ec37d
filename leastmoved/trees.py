"""Trees that show that no table keeps all pairs of a plan.

What is known of a table at a node is a tuple with a tuple for each allocation: for each bucket its variant,
or None while it is not known.
"""

from leastmoved.assignments import ascending
from leastmoved.checks import is_integer
from leastmoved.plans import is_wasted

MOST_NODES = 2000


def known_at_root(allocations):
    """Return what is known at the root: the first assignment of the first allocation."""
    nothing = (None,) * sum(allocations[0])
    return (ascending(allocations[0]),) + (nothing,) * (len(allocations) - 1)


def known_after(known, cell, variant):
    """Return what is known if the cell is known besides."""
    at, bucket = cell
    row = known[at][:bucket] + (variant,) + known[at][bucket + 1:]
    return known[:at] + (row,) + known[at + 1:]


def is_unknown_cell(known, value):
    """Return True if the value is a cell whose variant is not known."""
    if not isinstance(value, tuple) or len(value) != 2:
        return False
    at, bucket = value
    if not is_integer(at, 0, len(known) - 1) or not is_integer(bucket, 0, len(known[0]) - 1):
        return False
    return known[at][bucket] is None


def is_full(allocations, known, at, variant):
    """Return True if the allocation is known to have more buckets of the variant than its share."""
    return known[at].count(variant) > allocations[at][variant]


def is_short(allocations, known, at, variant):
    """Return True if the allocation cannot have as many buckets of the variant any more as its share."""
    return known[at].count(variant) + known[at].count(None) < allocations[at][variant]


def is_moved(allocations, known, pair, bucket):
    """Return True if the bucket is known to move needlessly between the two allocations."""
    one, two = pair
    old, new = known[one][bucket], known[two][bucket]
    if old is None or new is None:
        return False
    return is_wasted(allocations[one], allocations[two], old, new)


def is_right_leaf(allocations, pairs, known, node):
    """Return True if the value is a leaf that is right with what is known."""
    if not isinstance(node, tuple) or len(node) != 3:
        return False
    word, one, two = node
    if word == "moved":
        if not is_integer(one, 0, len(pairs) - 1) or not is_integer(two, 0, len(known[0]) - 1):
            return False
        return is_moved(allocations, known, pairs[one], two)
    if not is_integer(one, 0, len(allocations) - 1) or not is_integer(two, 0, len(allocations[0]) - 1):
        return False
    if word == "full":
        return is_full(allocations, known, one, two)
    return word == "short" and is_short(allocations, known, one, two)


def is_split(allocations, known, node):
    """Return True if the value is a split of a cell that is not known, with a branch for each variant."""
    if not isinstance(node, tuple) or len(node) != 3 or node[0] != "split":
        return False
    if not is_unknown_cell(known, node[1]):
        return False
    return isinstance(node[2], tuple) and len(node[2]) == len(allocations[0])


def is_right_tree(allocations, pairs, tree):
    """Return True if all nodes of the tree are right and it has at most 2000 of them."""
    waiting = [(tree, known_at_root(allocations))]
    nodes = 0
    while waiting and nodes < MOST_NODES:
        node, known = waiting.pop()
        nodes += 1
        if is_split(allocations, known, node):
            for variant, branch in enumerate(node[2]):
                waiting.append((branch, known_after(known, node[1], variant)))
        elif not is_right_leaf(allocations, pairs, known, node):
            return False
    return not waiting


def leaf_at(allocations, pairs, known, cell):
    """Return a leaf that is right since the cell is known, or None."""
    at, bucket = cell
    leaves = [("moved", index, bucket) for index in range(len(pairs))]
    for variant in range(len(allocations[0])):
        leaves.extend([("full", at, variant), ("short", at, variant)])
    right = [leaf for leaf in leaves if is_right_leaf(allocations, pairs, known, leaf)]
    return right[0] if right else None


def grown(allocations, pairs, known, cells):
    """Return a pair of the tree that splits these cells, and the number of its nodes."""
    branches = []
    nodes = 1
    for variant in range(len(allocations[0])):
        after = known_after(known, cells[0], variant)
        leaf = leaf_at(allocations, pairs, after, cells[0])
        branch, more = (leaf, 1) if leaf is not None else grown(allocations, pairs, after, cells[1:])
        branches.append(branch)
        nodes += more
    return (("split", cells[0], tuple(branches)), nodes)


def full_tree(allocations, pairs):
    """Return a pair of the tree for a plan whose pairs no table keeps, and the number of its nodes."""
    cells = [(at, bucket) for at in range(1, len(allocations)) for bucket in range(sum(allocations[0]))]
    return grown(allocations, pairs, known_at_root(allocations), cells)
