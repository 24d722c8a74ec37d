from itertools import combinations, permutations, product
from unittest import mock

from leastmoved.conflicts import accepts_tree, least_conflict, most_pairs, tree_against
from leastmoved.errors import TooLarge
from leastmoved.plans import first_table
from tests.base import NOTHING, Case
from tests.brute import all_allocations, kept_indexes, subsets, tables_of
from tests.test_plans import ALL_THREE, FIVE, NO_ALLOCATIONS, NO_PAIRS, RING, THREE, all_pairs, joined, plans

# Six allocations, of which the first three are a bad triple; nothing is said of the others.
SIX = THREE + ((2, 0, 0),) * 3
SIX_OF_FIVE = tuple(shares + (0, 0) for shares in SIX)


def in_conflict():
    """Plans of which no table keeps all pairs."""
    for allocations, pairs in plans():
        if not any(len(kept_indexes(allocations, pairs, table)) == len(pairs) for table in tables_of(allocations)):
            yield allocations, pairs
    yield ((2, 2, 0), (2, 0, 2), (0, 2, 2)), ALL_THREE
    yield ((3, 0, 0, 0, 0), (1, 0, 1, 1, 0), (2, 0, 0, 0, 1), (0, 0, 1, 1, 1)), tuple(all_pairs(4))
    yield ((3, 0, 0, 0), (1, 1, 1, 0), (1, 0, 1, 1), (1, 1, 0, 1)), ((1, 2), (2, 3), (1, 3))


def sorted_row(allocation):
    return tuple(v for v, share in enumerate(allocation) for _ in range(share))


def root_cells(allocations):
    return {(0, bucket): v for bucket, v in enumerate(sorted_row(allocations[0]))}


def right_leaf(allocations, pairs, known, node):
    """The leaf is right with the known cells, as promise 59 tells it."""
    word, one, two = node
    if word == "moved":
        i, j = pairs[one]
        if (i, two) not in known or (j, two) not in known:
            return False
        old, new = known[i, two], known[j, two]
        if old == new:
            return False
        return allocations[j][old] >= allocations[i][old] or allocations[j][new] <= allocations[i][new]
    cells = [known.get((one, bucket)) for bucket in range(sum(allocations[0]))]
    with_it = len([v for v in cells if v == two])
    unknown = len([v for v in cells if v is None])
    if word == "full":
        return with_it > allocations[one][two]
    return with_it + unknown < allocations[one][two]


def all_leaves(allocations, pairs):
    buckets, variants = range(sum(allocations[0])), range(len(allocations[0]))
    found = [("moved", index, bucket) for index in range(len(pairs)) for bucket in buckets]
    return found + [(word, at, v) for word in ("full", "short") for at in range(len(allocations)) for v in variants]


def is_right(allocations, pairs, node, known=None):
    """All nodes of the tree are as promise 59 tells them; the tree has the form of one."""
    known = root_cells(allocations) if known is None else known
    if node[0] != "split":
        return right_leaf(allocations, pairs, known, node)
    if node[1] in known:
        return False
    return all(is_right(allocations, pairs, branch, {**known, node[1]: v}) for v, branch in enumerate(node[2]))


def nodes_of(node):
    return 1 + sum(nodes_of(branch) for branch in node[2]) if node[0] == "split" else 1


def replaced(node, at, change):
    """The tree with its node number `at`, counted from the root on, changed; and the number of its nodes."""
    if node[0] != "split":
        return (change(node) if at == 0 else node), 1
    count, branches = 1, []
    for branch in node[2]:
        other, more = replaced(branch, at - count, change)
        branches.append(other)
        count += more
    whole = (node[0], node[1], tuple(branches))
    return (change(whole) if at == 0 else whole), count


def unneeded(leaf, cells, budget):
    """A tree that splits the cells, though the leaf is right before; the budget tells how often, and the branches."""
    if not cells or budget[0] == 0:
        return leaf
    budget[0] -= 1
    return ("split", cells[0], tuple(unneeded(leaf, cells[1:], budget) for _ in range(budget[1])))


def of_splits(plan, many):
    """A right tree with exactly so many splits for SIX or SIX_OF_FIVE."""
    cells = [(at, bucket) for at in (3, 4, 5) for bucket in range(2)]
    tree = tree_against(plan, ALL_THREE)
    variants = len(plan[0])
    budget = [many - (nodes_of(tree) - 1) // variants, variants]

    def walk(node):
        if node[0] != "split":
            return unneeded(node, cells, budget)
        return (node[0], node[1], tuple(walk(branch) for branch in node[2]))
    return walk(tree)


class MostPairs(Case):
    """Promises 58, 61 and 63."""

    def test_against_all_tables(self):
        for allocations, pairs in plans():
            kept = [(kept_indexes(allocations, pairs, table), table) for table in tables_of(allocations)]
            most = max(len(indexes) for indexes, _ in kept)
            wanted = min(row for row in kept if len(row[0]) == most)
            self.same(most_pairs(allocations, pairs), wanted)

    def test_six_allocations(self):
        pairs = tuple(all_pairs(6))
        allocations = THREE + ((2, 0, 0), (0, 2, 0), (0, 0, 2))
        kept = [(kept_indexes(allocations, pairs, table), table) for table in tables_of(allocations)]
        most = max(len(indexes) for indexes, _ in kept)
        self.same(most_pairs(allocations, pairs), min(row for row in kept if len(row[0]) == most))

    def test_renamed_variants(self):
        for allocations, pairs in list(in_conflict())[::3]:
            for order in list(permutations(range(len(allocations[0]))))[:24]:
                other = tuple(tuple(shares[v] for v in order) for shares in allocations)
                self.assertEqual(len(most_pairs(other, pairs)[0]), len(most_pairs(allocations, pairs)[0]))
                self.assertEqual(len(least_conflict(other, pairs)), len(least_conflict(allocations, pairs)))

    def test_no_pairs(self):
        self.same(most_pairs(((1, 1), (0, 2)), ()), ((), ((0, 1), (1, 1))))
        self.same(most_pairs(((0,),), ()), ((), ((),)))
        self.same(most_pairs(((12, 0),), ()), ((), ((0,) * 12,)))


class LeastConflict(Case):
    """Promises 57 and 58."""

    def test_against_all_tables(self):
        for allocations, pairs in plans():
            kept = [set(kept_indexes(allocations, pairs, table)) for table in tables_of(allocations)]
            conflicts = [chosen for chosen in subsets(len(pairs)) if not any(set(chosen) <= each for each in kept)]
            self.same(least_conflict(allocations, pairs), conflicts[0] if conflicts else None)

    def test_rings(self):
        self.same(least_conflict(FIVE, RING), (0, 1, 2, 3, 4))
        self.same(least_conflict(THREE, ALL_THREE), (0, 1, 2))
        self.same(least_conflict(SIX, ((3, 4), (0, 1), (2, 3), (1, 2), (4, 5), (0, 2))), (1, 3, 5))
        self.same(least_conflict(THREE, ALL_THREE[:2]), None)

    def test_all_pairs_of_six_allocations(self):
        pairs = tuple(all_pairs(6))
        same = ((1, 1, 0),) * 6
        self.same(least_conflict(same, pairs), None)
        self.same(least_conflict(THREE + THREE, pairs), (0, 1, 5))

    def test_every_pair_lies_on_a_cycle(self):
        for allocations, pairs in in_conflict():
            chosen = [pairs[index] for index in least_conflict(allocations, pairs)]
            for one, two in chosen:
                others = [pair for pair in chosen if pair != (one, two)]
                reached = {one}
                for _ in allocations:
                    reached |= {k for k in range(len(allocations)) for r in list(reached) if joined(others, k, r)}
                self.assertIn(two, reached)


class TreeAgainst(Case):
    """Promises 59, 60 and 62."""

    def test_none_exactly_if_some_table_keeps_all(self):
        for allocations, pairs in plans():
            right = [t for t in tables_of(allocations) if len(kept_indexes(allocations, pairs, t)) == len(pairs)]
            self.assertEqual(tree_against(allocations, pairs) is None, bool(right))

    def test_trees_are_right(self):
        for allocations, pairs in in_conflict():
            tree = tree_against(allocations, pairs)
            self.assertTrue(is_right(allocations, pairs, tree))
            self.same(accepts_tree(allocations, pairs, tree), True)

    def test_cells_in_their_order_and_leaves_at_once(self):
        for allocations, pairs in in_conflict():
            cells = [(at, b) for at in range(1, len(allocations)) for b in range(sum(allocations[0]))]
            leaves = all_leaves(allocations, pairs)

            def walk(node, known, left):
                right = [leaf for leaf in leaves if right_leaf(allocations, pairs, known, leaf)]
                if node[0] != "split":
                    self.assertIn(repr(node), [repr(leaf) for leaf in right])
                    return
                self.assertEqual(right, [])
                self.same(node[:2], ("split", left[0]))
                self.assertEqual(len(node[2]), len(allocations[0]))
                for v, branch in enumerate(node[2]):
                    walk(branch, {**known, left[0]: v}, left[1:])
            walk(tree_against(allocations, pairs), root_cells(allocations), cells)

    def test_too_large_a_tree(self):
        nodes = nodes_of(tree_against(FIVE, RING))
        with mock.patch("leastmoved.conflicts.MOST_NODES", nodes):
            self.assertEqual(nodes_of(tree_against(FIVE, RING)), nodes)
        with mock.patch("leastmoved.conflicts.MOST_NODES", nodes - 1):
            with self.assertRaises(TooLarge) as caught:
                tree_against(FIVE, RING)
            self.assertEqual(caught.exception.what, "tree")
            self.same(tree_against(FIVE, RING[:4]), None)


class AcceptsTree(Case):
    """Promises 59 and 60."""

    def test_changed_leaves(self):
        for allocations, pairs in list(in_conflict())[::4] + [(FIVE, RING)]:
            tree = tree_against(allocations, pairs)
            leaves = all_leaves(allocations, pairs)
            for at in list(range(nodes_of(tree)))[::3]:
                for leaf in leaves[at % 3::3]:
                    other, _ = replaced(tree, at, lambda node: leaf)
                    self.same(accepts_tree(allocations, pairs, other), is_right(allocations, pairs, other))

    def test_changed_splits(self):
        for allocations, pairs in list(in_conflict())[::5]:
            tree = tree_against(allocations, pairs)
            cells = list(product(range(len(allocations)), range(sum(allocations[0]))))
            for at in range(nodes_of(tree)):
                for cell in cells:
                    def change(node):
                        return (node[0], cell, node[2]) if node[0] == "split" else node
                    other, _ = replaced(tree, at, change)
                    self.same(accepts_tree(allocations, pairs, other), is_right(allocations, pairs, other))

                def turned(node):
                    return (node[0], node[1], node[2][::-1]) if node[0] == "split" else node
                other, _ = replaced(tree, at, turned)
                self.same(accepts_tree(allocations, pairs, other), is_right(allocations, pairs, other))

    def test_changed_pairs(self):
        for allocations, pairs in list(in_conflict())[::3]:
            tree = tree_against(allocations, pairs)
            for at in range(len(pairs)):
                for other in [pair for pair in all_pairs(len(allocations)) if pair not in pairs]:
                    changed = pairs[:at] + (other,) + pairs[at + 1:]
                    self.same(accepts_tree(allocations, changed, tree), is_right(allocations, changed, tree))
            turned = pairs[1:] + pairs[:1]
            self.same(accepts_tree(allocations, turned, tree), is_right(allocations, turned, tree))

    def test_none_is_accepted_where_a_table_keeps_all(self):
        for allocations in list(product(all_allocations(3, 2), repeat=3))[::5]:
            if first_table(allocations, ALL_THREE) is None:
                continue
            leaves = all_leaves(allocations, ALL_THREE)
            for cell in ((1, 0), (1, 1), (2, 0), (2, 1)):
                for leaf in leaves:
                    self.same(accepts_tree(allocations, ALL_THREE, ("split", cell, (leaf,) * 3)), False)
                    self.same(accepts_tree(allocations, ALL_THREE, leaf), False)

    def test_leaves_at_the_root(self):
        for allocations, pairs in ((THREE, ALL_THREE), (FIVE, RING)):
            for leaf in all_leaves(allocations, pairs):
                self.same(accepts_tree(allocations, pairs, leaf), False)

    def test_full_and_short_count_exactly(self):
        plan = (((2, 1, 0), (1, 1, 1), (1, 2, 0)), ((0, 1),))
        for leaf in all_leaves(*plan):
            for cells in (((1, 0), (1, 1)), ((1, 0), (1, 1), (1, 2)), ((2, 0), (2, 2)), ((2, 0), (2, 1), (2, 2)), ((1, 1), (2, 0))):
                tree = leaf
                for cell in cells[::-1]:
                    tree = ("split", cell, (tree,) * 3)
                self.same(accepts_tree(*plan, tree), is_right(*plan, tree))
                for chosen in product(range(3), repeat=len(cells)):
                    self.check_one_way(plan, leaf, cells, chosen)

    def check_one_way(self, plan, leaf, cells, chosen):
        """The judge agrees with the words on the leaf, if these cells are known besides at the root."""
        known = root_cells(plan[0])
        for cell, v in zip(cells, chosen):
            known[cell] = v
        wanted = right_leaf(*plan, known, leaf)
        word, one, two = leaf
        most = (len(plan[1]), sum(plan[0][0])) if word == "moved" else (len(plan[0]), len(plan[0][0]))
        wrong = [(word, one - most[0], two), (word, one, two - most[1])]
        wrong.extend((other, one, two) for other in ("", "Short", "none", "split", None, 0, ("full",)))
        with mock.patch("leastmoved.trees.known_at_root", lambda allocations: rows_of(allocations, known)):
            self.same(accepts_tree(*plan, leaf), wanted)
            for other in wrong:
                self.same(accepts_tree(*plan, other), False)

    def test_wrong_forms(self):
        tree = tree_against(THREE, ALL_THREE)
        self.same(accepts_tree(THREE, ALL_THREE, tree), True)
        wrong = NOTHING + (
            (), ("split",), ("split", (1, 0)), ("split", (1, 0), ()), ("split", (1, 0), None), ("full", 0), ("full", 0, 0, 0),
            ("moved", 3, 0), ("moved", -1, 0), ("moved", 0, 2), ("full", 3, 0), ("full", 0, 3), ("full", -1, 0),
            ("full", None, 0), ("full", 0, None), ("moved", None, 0), ("moved", 0, None), ("moved", (0,), 0), ("moved", 0, (0,)),
            ("short", 0, -1), ("short", "0", 0), ("short", [0], 0), ("short", 0, [0]), ("short", 1, True), ("none", 0, 0),
            ("split", 0, 0), (0, 0, 0), (None, None, None), (("full", 0, 0),), ("full", True, 0), ("moved", False, 0))
        for at in range(nodes_of(tree)):
            for value in wrong:
                other, _ = replaced(tree, at, lambda node: value)
                self.same(accepts_tree(THREE, ALL_THREE, other), False)

    def test_wrong_forms_of_splits(self):
        tree = tree_against(THREE, ALL_THREE)
        word, cell, branches = tree
        for other in (
                list(tree), (word, cell, list(branches)), (word, cell, branches[:2]), (word, cell, branches + branches[:1]),
                (word, list(cell), branches), (word, cell + (0,), branches), (word, cell[:1], branches), (word, (0, 0), branches),
                (word, (0, 1), branches), (word, (3, 0), branches), (word, (1, 2), branches), (word, (-1, 0), branches),
                (word, (1, -1), branches), (word, (True, 0), branches), (word, (1, False), branches), (word, None, branches),
                (word, 1, branches), (word, "10", branches), (word, ((1,), 0), branches), (word, ([1], 0), branches),
                ("Split", cell, branches), (cell, word, branches), (word, cell, branches, ()), (word, cell), (word, cell, 3),
                (word, cell, "012"), (word, cell, (None,) * 3), (word, (1, 0, 0), branches), (word, (), branches),
                (word, (2, 2), branches), (word, (1, 1.0), branches)):
            self.same(accepts_tree(THREE, ALL_THREE, other), False)

    def test_cells_beyond_the_buckets_or_the_allocations(self):
        # As many allocations as buckets make no difference, so here are more of the ones and of the others.
        one, two = SIX, ((3, 3, 0), (3, 0, 3), (0, 3, 3))
        for plan, cells in ((one, ((1, 2), (2, 3), (1, 5))), (two, ((3, 0), (5, 0), (3, 5)))):
            tree = ("split", cells[0], (("full", 0, 0),) * 3)
            for cell in cells:
                self.same(accepts_tree(plan, ALL_THREE, ("split", cell, tree[2])), False)
        self.same(accepts_tree(two, ALL_THREE, ("moved", 0, 6)), False)

    def test_no_cell_is_below_0(self):
        tree = tree_against(SIX, ALL_THREE)
        for at in range(nodes_of(tree)):
            for cell, wanted in (((5, 0), True), ((5, 1), True), ((-1, 0), False), ((5, -1), False), ((-1, -1), False)):
                other, _ = replaced(tree, at, lambda node: ("split", cell, (node,) * 3))
                self.same(accepts_tree(SIX, ALL_THREE, other), wanted)

    def test_cell_split_twice(self):
        leaf = ("full", 1, 0)
        twice = ("split", (3, 0), (("split", (3, 0), (leaf,) * 3),) * 3)
        self.same(accepts_tree(SIX, ALL_THREE, twice), False)

        def change(node):
            return ("split", (3, 0), (node,) * 3)
        tree = tree_against(SIX, ALL_THREE)
        other, _ = replaced(tree, 2, change)
        self.same(accepts_tree(SIX, ALL_THREE, other), True)
        again, _ = replaced(other, 3, change)
        self.same(accepts_tree(SIX, ALL_THREE, again), False)

    def test_2000_nodes_are_let(self):
        for plan, many, wanted in (
                (SIX, 665, True), (SIX, 666, True), (SIX, 667, False), (SIX, 700, False), (SIX_OF_FIVE, 399, True),
                (SIX_OF_FIVE, 400, False)):
            tree = of_splits(plan, many)
            self.assertEqual(nodes_of(tree), 1 + len(plan[0]) * many)
            self.assertTrue(is_right(plan, ALL_THREE, tree))
            self.same(accepts_tree(plan, ALL_THREE, tree), wanted)
        with mock.patch("leastmoved.trees.MOST_NODES", 1999):
            self.same(accepts_tree(SIX, ALL_THREE, of_splits(SIX, 666)), True)
        with mock.patch("leastmoved.trees.MOST_NODES", 1998):
            self.same(accepts_tree(SIX, ALL_THREE, of_splits(SIX, 666)), False)

    def test_deep_right_tree(self):
        # Where the last three allocations have one variant only, any other one is too much.
        big = tuple(shares[:2] + (shares[2] + 18,) for shares in THREE) + ((0, 0, 20),) * 3
        cells = [(at, bucket) for at in (3, 4, 5) for bucket in range(20)] + [(at, b) for at in (1, 2) for b in range(2, 20)]
        tree = tree_against(THREE, ALL_THREE)
        for at, bucket in cells[::-1]:
            wrong = (("full", at, 0), ("full", at, 1)) if at >= 3 else (("moved", at - 1, bucket),) * 2
            tree = ("split", (at, bucket), wrong + (tree,))
        self.same(accepts_tree(big, ALL_THREE, tree), True)
        self.same(accepts_tree(big, ALL_THREE[:2], tree), False)

    def test_shared_branches_and_endless_ones(self):
        cells = [(at, bucket) for at in range(3, 6) for bucket in range(20)]
        plan = ((10, 10, 0), (10, 0, 10), (0, 10, 10), (20, 0, 0), (0, 20, 0), (0, 0, 20))
        wide = endless = ("full", 1, 1)
        for cell in cells:
            wide = ("split", cell, (wide,) * 3)
        self.same(accepts_tree(plan, ALL_THREE, ("split", (1, 0), (wide,) * 3)), False)
        for _ in range(50000):
            endless = ("split", (1, 0), (("full", 1, 1), endless, ("full", 1, 1)))
        self.same(accepts_tree(plan, ALL_THREE, endless), False)


def rows_of(allocations, known):
    """Known cells in the form in which the program keeps them."""
    buckets = range(sum(allocations[0]))
    return tuple(tuple(known.get((at, bucket)) for bucket in buckets) for at in range(len(allocations)))


class Example(Case):
    """Promise 66."""

    def test_two_of_the_three_pairs_can_be_kept(self):
        for pairs in combinations(ALL_THREE, 2):
            self.assertIsNotNone(first_table(THREE, pairs))
        self.same(len(most_pairs(THREE, ALL_THREE)[0]), 2)


class WrongArguments(Case):
    """Promises 2, 7, 62 and 65."""

    def test_plan(self):
        for function in (most_pairs, least_conflict, tree_against):
            self.checks_arguments(function, (THREE, ALL_THREE), ("allocations", NO_ALLOCATIONS), ("pairs", NO_PAIRS))

        def judged(allocations, pairs):
            return accepts_tree(allocations, pairs, None)
        self.checks_arguments(judged, (THREE, ALL_THREE), ("allocations", NO_ALLOCATIONS), ("pairs", NO_PAIRS))

    def test_search(self):
        for allocations in (((13,),), ((7, 0), (7, 0)), ((2, 3),) * 3, ((4,),) * 4, ((3, 0),) * 5, ((1, 1, 1),) * 6, ((20,),) * 6):
            for function in (most_pairs, least_conflict, tree_against):
                with self.assertRaises(TooLarge) as caught:
                    function(allocations, ())
                self.assertEqual(caught.exception.what, "search")
            self.same(accepts_tree(allocations, (), ("full", 0, 0)), False)
            for function in (most_pairs, least_conflict, tree_against):
                self.refused("pairs", function, allocations, ((0, 6),))

    def test_twelve_cells_are_let(self):
        for allocations in (((12,),), ((6, 0), (6, 0)), ((2, 2),) * 3, ((3,),) * 4, ((2, 0),) * 5, ((1, 1),) * 6, ((1,),) * 6):
            pairs = tuple(all_pairs(len(allocations)))
            self.same(most_pairs(allocations, pairs)[0], tuple(range(len(pairs))))
            self.same(least_conflict(allocations, pairs), None)
            self.same(tree_against(allocations, pairs), None)
