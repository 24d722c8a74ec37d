import random
from itertools import combinations, product
from unittest import mock

from leastmoved.errors import TooLarge
from leastmoved.fewest import accepts_few, accepts_fewest, fewest, lists_for, needed
from leastmoved.rules import needless_leave
from tests.base import NOTHING, Case
from tests.brute import allowed_shares, assignments_of, entries_of, is_steady, together
from tests.test_populations import FAMILIES, NO_FAMILIES, NO_VARIANTS, PAIRWISE, RING, STAIRS, serves
from tests.test_rules import given_by

# Nine entries that all coexist, and ten.
NINE = ((3, 2, 2, 2),)
TEN = ((3, 3, 2, 2),)


def lists_of(family, buckets):
    """The buckets, in the order of the entries, as the lists of the variants."""
    lists, begin = [], 0
    for v in range(len(family[0])):
        most = max(shares[v] for shares in family)
        lists.append(tuple(buckets[begin:begin + most]))
        begin += most
    return tuple(lists)


def fewest_by_words(family):
    """The fewest buckets and the first lists, found among all ways to give buckets."""
    places = entries_of(family)
    near = [(one, two) for one, two in combinations(range(len(places)), 2) if together(family, places[one], places[two])]
    many = 0
    while True:
        for buckets in product(range(many), repeat=len(places)):
            if all(buckets[one] != buckets[two] for one, two in near):
                return many, lists_of(family, buckets)
        many += 1


def small_families():
    """Families with at most six entries."""
    return [(variants, family) for variants, family in FAMILIES if len(entries_of(family)) <= 6]


def case_is_right(family, few, tree):
    """The case tree is as promise 95 tells it; the tree has the form of one."""
    places = entries_of(family)
    start = [frozenset((one, two)) for one, two in combinations(places, 2) if together(family, one, two)]
    return judged(places, few, tree, [], start)


def classes(places, same):
    """For each entry the entries that are known to have the same bucket."""
    groups = {entry: {entry} for entry in places}
    for one, two in same:
        whole = groups[one] | groups[two]
        for entry in whole:
            groups[entry] = whole
    return groups


def judged(places, few, tree, same, unlike):
    groups = classes(places, same)

    def apart(one, two):
        return any(frozenset((a, b)) in unlike for a in groups[one] for b in groups[two])
    if tree[0] == "clique":
        right = all(entry in places for entry in tree[1])
        return right and len(tree[1]) > few and all(apart(one, two) for one, two in combinations(tree[1], 2))
    _, one, two, alike, other = tree
    if one not in places or two not in places or two in groups[one] or apart(one, two):
        return False
    return (judged(places, few, alike, same + [(one, two)], unlike)
            and judged(places, few, other, same, unlike + [frozenset((one, two))]))


def nodes_of(tree):
    return 1 + nodes_of(tree[3]) + nodes_of(tree[4]) if tree[0] == "cases" else 1


def replaced(tree, at, change):
    """The tree with its node number `at`, counted from the root on, changed."""
    if at == 0:
        return change(tree)
    if tree[0] != "cases":
        return tree
    many = nodes_of(tree[3])
    alike = replaced(tree[3], at - 1, change) if at <= many else tree[3]
    unlike = replaced(tree[4], at - 1 - many, change) if at > many else tree[4]
    return tree[:3] + (alike, unlike)


def node_at(tree, at):
    found = []
    replaced(tree, at, lambda node: found.append(node) or node)
    return found[0]


def forked(places, few, same, unlike, depth):
    """A right case tree that makes so many forks before it looks for a clique, where it can."""
    groups = classes(places, same)

    def apart(one, two):
        return any(frozenset((a, b)) in unlike for a in groups[one] for b in groups[two])
    open_pairs = [(one, two) for one, two in combinations(places, 2) if two not in groups[one] and not apart(one, two)]
    if depth == 0 or not open_pairs:
        for chosen in combinations(places, few + 1):
            if all(apart(one, two) for one, two in combinations(chosen, 2)):
                return ("clique", chosen)
    one, two = open_pairs[depth % len(open_pairs)]
    alike = forked(places, few, same + [(one, two)], unlike, max(0, depth - 1))
    return ("cases", one, two, alike, forked(places, few, same, unlike + [frozenset((one, two))], max(0, depth - 1)))


def forked_tree(family, few, depth):
    places = entries_of(family)
    start = [frozenset((one, two)) for one, two in combinations(places, 2) if together(family, one, two)]
    return forked(places, few, [], start, depth)


def right_trees():
    """Families with a number of buckets that is too few, and right trees for it."""
    for variants, family in ((4, PAIRWISE), (3, STAIRS), (5, RING), (3, ((2, 0), (0, 2))), (4, ((2, 1, 0), (0, 1, 1)))):
        few = fewest_by_words(family)[0] - 1
        for depth in range(4):
            yield variants, family, few, forked_tree(family, few, depth)
    yield 5, RING, 0, forked_tree(RING, 0, 3)
    yield 5, ((2, 0, 1, 0), (0, 2, 0, 1)), 2, forked_tree(((2, 0, 1, 0), (0, 2, 0, 1)), 2, 5)


class Fewest(Case):
    """Promises 94 and 97."""

    def test_against_all_ways_to_give_buckets(self):
        for variants, family in small_families():
            many, lists = fewest_by_words(family)
            found = fewest(variants, family)
            self.same(found[:2], (many, lists))
            self.assertEqual(len(found), 3)
            self.same(accepts_fewest(variants, family, found), True)
            self.assertTrue(serves(family, lists))
            if many > 0:
                self.assertTrue(case_is_right(family, many - 1, found[2]))
            else:
                self.same(found[2], None)

    def test_greater_families(self):
        chance = random.Random(8)
        for _ in range(300):
            variants = chance.choice((3, 4, 5, 5))
            most = [chance.choice((1, 2, 2, 3)) for _ in range(variants - 1)]
            if sum(most) > 9:
                continue
            family = tuple(tuple(chance.choice(range(m + 1)) for m in most) for _ in range(chance.choice((3, 4, 5))))
            found = fewest(variants, family)
            self.same(accepts_fewest(variants, family, found), True)
            self.assertTrue(serves(family, found[1]))
            self.assertTrue(found[0] == 0 or case_is_right(family, found[0] - 1, found[2]))
            self.first_of_its_length(family, found[0], found[1])

    def first_of_its_length(self, family, many, lists):
        """No lists come before these: wherever a lesser bucket stood, no lists could go on."""
        places = entries_of(family)
        given = [bucket for row in lists for bucket in row]
        near = [[k for k in range(at) if together(family, places[k], places[at])] for at in range(len(places))]

        def goes_on(known):
            at = len(known)
            if at == len(places):
                return True
            free = [b for b in range(many) if b not in [known[k] for k in near[at]]]
            return any(goes_on(known + [b]) for b in free)
        for at, bucket in enumerate(given):
            for lesser in range(bucket):
                if lesser not in [given[k] for k in near[at]]:
                    self.assertFalse(goes_on(given[:at] + [lesser]))

    def test_lists(self):
        self.same(fewest(3, STAIRS)[:2], (4, ((0, 1, 2), (3, 1, 2))))
        self.same(fewest(4, PAIRWISE)[:2], (3, ((0,), (1,), (2,))))
        self.same(fewest(5, RING)[:2], (2, ((0,), (1,), (0,), (1,))))
        self.same(fewest(1, ((),)), (0, (), None))
        self.same(fewest(3, ((0, 0),)), (0, ((), ()), None))
        self.same(fewest(2, ((9,), (3,)))[:2], (9, (tuple(range(9)),)))
        self.same(fewest(5, NINE)[:2], (9, ((0, 1, 2), (3, 4), (5, 6), (7, 8))))
        self.same(fewest(3, ((4, 0), (0, 5)))[:2], (5, ((0, 1, 2, 3), (0, 1, 2, 3, 4))))

    def test_entries(self):
        for family in (TEN, ((10, 0, 0, 0),), ((2, 2, 2, 0), (0, 0, 0, 4)), ((9, 0, 0, 0), (0, 0, 0, 1)), ((10, 0, 0, 0), (0, 9, 0, 0))):
            with self.assertRaises(TooLarge) as caught:
                fewest(5, family)
            self.assertEqual(caught.exception.what, "entries")
            # The judges take larger families.
            self.same(accepts_few(5, family, 0, ("clique", ((1, 0), (1, 1)))), True)
        self.same(fewest(5, ((9, 0, 0, 0), (1, 0, 0, 0)))[0], 9)
        self.same(fewest(5, ((2, 2, 2, 0), (0, 0, 0, 3)))[0], 6)
        self.refused("family", fewest, 4, TEN)


class AcceptsFew(Case):
    """Promises 95 and 96."""

    def test_right_trees(self):
        for variants, family, few, tree in right_trees():
            self.assertTrue(case_is_right(family, few, tree))
            self.same(accepts_few(variants, family, few, tree), True)
            for other in range(8):
                self.same(accepts_few(variants, family, other, tree), case_is_right(family, other, tree))

    def test_changed_cliques(self):
        for variants, family, few, tree in right_trees():
            places = entries_of(family)
            for at in range(nodes_of(tree)):
                if node_at(tree, at)[0] == "clique":
                    for many in range(1, few + 3):
                        for chosen in list(product(places, repeat=many))[::1 + 3 * many * many]:
                            other = replaced(tree, at, lambda node: ("clique", chosen))
                            self.same(accepts_few(variants, family, few, other), case_is_right(family, few, other))

    def test_changed_forks(self):
        for variants, family, few, tree in right_trees():
            places = entries_of(family)
            for at in range(nodes_of(tree)):
                if node_at(tree, at)[0] == "cases":
                    for one, two in product(places, repeat=2):
                        other = replaced(tree, at, lambda node: ("cases", one, two) + node[3:])
                        self.same(accepts_few(variants, family, few, other), case_is_right(family, few, other))
                    turned = replaced(tree, at, lambda node: node[:3] + (node[4], node[3]))
                    self.same(accepts_few(variants, family, few, turned), case_is_right(family, few, turned))

    def test_no_tree_for_enough_buckets(self):
        for variants, family in small_families():
            many, _ = fewest_by_words(family)
            places = entries_of(family)
            for chosen in list(product(places, repeat=min(many + 1, 4)))[::7]:
                self.same(accepts_few(variants, family, many, ("clique", chosen)), False)

    def test_same_bucket_one_after_another(self):
        # (1, 0), (2, 0) and (3, 0) have the same bucket in the first cases, so it is known of the last two.
        family = ((1, 0, 0, 0), (0, 1, 0, 0), (0, 0, 1, 0), (0, 0, 0, 1))
        leaf = ("clique", ((1, 0),))
        one, two, three, four = ((v, 0) for v in (1, 2, 3, 4))
        for pairs, wanted in (
                (((one, two), (two, three)), True), (((one, two), (three, one)), True), (((one, two), (two, one)), False),
                (((one, two), (two, three), (one, three)), False), (((one, two), (two, three), (three, four)), True),
                (((one, two), (two, three), (four, three), (one, four)), False), (((one, two), (three, four), (one, four)), True),
                (((one, two), (three, four), (two, three), (one, four)), False), (((one, one),), False)):
            tree = leaf
            for first, second in pairs[::-1]:
                tree = ("cases", first, second, tree, leaf)
            self.assertEqual(case_is_right(family, 0, tree), wanted)
            self.same(accepts_few(5, family, 0, tree), wanted)

    def test_different_buckets_of_the_same_ones(self):
        family = ((1, 0, 0, 1), (0, 1, 0, 0), (0, 0, 1, 0))
        one, two, three, four = ((v, 0) for v in (1, 2, 3, 4))
        self.same(accepts_few(5, family, 1, ("clique", (one, four))), True)
        self.same(accepts_few(5, family, 1, ("clique", (two, four))), False)
        right = ("clique", (one, four))
        # As (1, 0) and (2, 0) have the same bucket, so do they have another one than (4, 0).
        self.same(accepts_few(5, family, 1, ("cases", one, two, ("clique", (two, four)), right)), True)
        self.same(accepts_few(5, family, 1, ("cases", two, one, ("clique", (two, four)), right)), True)
        self.same(accepts_few(5, family, 1, ("cases", one, two, right, ("clique", (two, four)))), False)
        self.same(accepts_few(5, family, 1, ("cases", one, two, right, ("clique", (one, two)))), True)
        self.same(accepts_few(5, family, 1, ("cases", one, two, ("clique", (one, two)), right)), False)
        twice = ("cases", one, two, ("cases", four, three, ("clique", (two, three)), right), right)
        self.same(accepts_few(5, family, 1, twice), True)
        later = ("cases", two, three, ("cases", three, four, right, ("clique", (four, two))), right)
        self.same(accepts_few(5, family, 1, later), True)
        after = ("cases", three, four, right, ("cases", two, three, ("clique", (two, four)), right))
        self.same(accepts_few(5, family, 1, after), True)
        for tree in (twice, later, after):
            self.assertTrue(case_is_right(family, 1, tree))

    def test_any_order_of_a_clique(self):
        self.same(accepts_few(4, PAIRWISE, 2, ("clique", ((3, 0), (1, 0), (2, 0)))), True)
        self.same(accepts_few(4, PAIRWISE, 2, ("clique", ((1, 0), (1, 0), (2, 0)))), False)

    def test_wrong_forms(self):
        tree = ("cases", (1, 0), (3, 0), ("clique", ((1, 0), (2, 0))), ("clique", ((3, 0), (4, 0))))
        self.same(accepts_few(5, RING, 1, tree), True)
        entry = NOTHING + ((), (1,), (1, 1), (0, 0), (5, 0), (1, -1), (1, 0, 0), [1, 0], (True, 0), (1, False), "10", ((1, 0),), ([1], 0))
        for value in entry:
            for other in (
                    (tree[0], value) + tree[2:], tree[:2] + (value,) + tree[3:], tree[:3] + (value,) + tree[4:], tree[:4] + (value,),
                    ("clique", (value, (2, 0))), ("clique", ((1, 0), value)), ("clique", ((1, 0), (2, 0), value)), ("clique", value),
                    (value,) + tree[1:], (value, ((1, 0), (2, 0))), value):
                self.same(accepts_few(5, RING, 1, other), False)
        for other in (
                list(tree), tree[:4], tree + ((),), tree[:1], ("clique",), ("clique", ((1, 0), (2, 0)), ()), ["clique", ((1, 0), (2, 0))],
                ("clique", [(1, 0), (2, 0)]), ("cases", ((1, 0), (2, 0))), ("clique",) + tree[1:], ("Clique", ((1, 0), (2, 0))),
                (("clique", ((1, 0), (2, 0))),), ("clique", ((1, 0),)), ("clique", ())):
            self.same(accepts_few(5, RING, 1, other), False)

    def test_2000_nodes_are_let(self):
        family = ((6, 0, 0, 0), (0, 6, 0, 0), (0, 0, 6, 0), (0, 0, 0, 6))
        leaf = ("clique", ((1, 0),))

        def pairs_of(v, w):
            return [((v, i), (w, j)) for i, j in product(range(6), repeat=2)]

        def chain(pairs, below, budget):
            """Forks over the pairs, one after another; where two entries are alike, forks over the pairs below."""
            if budget[0] == 0 or not pairs:
                return leaf
            budget[0] -= 1
            alike = chain(below, [], budget)
            return ("cases",) + pairs[0] + (alike, chain(pairs[1:], below, budget))
        for many, wanted in ((998, True), (999, True), (1000, False), (1200, False)):
            tree = chain(pairs_of(1, 2), pairs_of(3, 4), [many])
            self.assertEqual(nodes_of(tree), 1 + 2 * many)
            self.same(accepts_few(5, family, 0, tree), wanted)
        tree = chain(pairs_of(1, 2), pairs_of(3, 4), [999])
        with mock.patch("leastmoved.cases.MOST_NODES", 1999):
            self.same(accepts_few(5, family, 0, tree), True)
        with mock.patch("leastmoved.cases.MOST_NODES", 1998):
            self.same(accepts_few(5, family, 0, tree), False)

    def test_deep_and_endless_trees(self):
        family = ((10, 0, 0, 0), (0, 10, 0, 0), (0, 0, 10, 0), (0, 0, 0, 10))
        leaf = ("clique", tuple((1, place) for place in range(10)))
        tree = leaf
        for one, two in combinations(entries_of(family), 2):
            if one[0] != two[0]:
                tree = ("cases", one, two, leaf, tree)
        self.assertEqual(sum(1 for one, two in combinations(entries_of(family), 2) if one[0] != two[0]), 600)
        self.same(accepts_few(5, family, 9, tree), True)
        self.same(accepts_few(5, family, 10, tree), False)
        endless = leaf
        for _ in range(50000):
            endless = ("cases", (1, 0), (2, 0), leaf, endless)
        self.same(accepts_few(5, family, 9, endless), False)
        wide = leaf
        for place in range(10):
            wide = ("cases", (1, place), (2, place), wide, wide)
        self.same(accepts_few(5, family, 9, wide), False)


class AcceptsFewest(Case):
    """Promise 97."""

    RIGHT = (3, ((0,), (1,), (2,)), ("clique", ((1, 0), (2, 0), (3, 0))))

    def test_other_numbers(self):
        for variants, family in small_families():
            many, lists, tree = fewest(variants, family)
            for other in range(-1, many + 3):
                self.same(accepts_fewest(variants, family, (other, lists, tree)), other == many)

    def test_other_lists(self):
        number, lists, tree = self.RIGHT
        self.same(accepts_fewest(4, PAIRWISE, self.RIGHT), True)
        for other in product(((0,), (1,), (2,), (3,), (), (0, 1), (2, 1), (0, 0), (1, 0, 2)), repeat=3):
            inside = all(len(set(row)) == len(row) and max(row, default=0) < 3 for row in other)
            self.same(accepts_fewest(4, PAIRWISE, (number, other, tree)), inside and serves(PAIRWISE, other))

    def test_other_trees(self):
        for variants, family, few, tree in right_trees():
            found = fewest(variants, family)
            self.same(accepts_fewest(variants, family, found[:2] + (tree,)), few + 1 == found[0])
        for tree in NOTHING + ((), ("clique", ()), ("clique", ((1, 0), (2, 0))), ("clique", ((1, 0), (2, 0), (2, 0)))):
            self.same(accepts_fewest(4, PAIRWISE, self.RIGHT[:2] + (tree,)), False)

    def test_no_buckets(self):
        for variants, family in ((1, ((),)), (3, ((0, 0),))):
            lists = ((),) * (variants - 1)
            self.same(accepts_fewest(variants, family, (0, lists, None)), True)
            for tree in (False, 0, (), ("clique", ()), ("clique", ((1, 0),)), "None"):
                self.same(accepts_fewest(variants, family, (0, lists, tree)), False)
            self.same(accepts_fewest(variants, family, (1, lists, None)), False)
            self.same(accepts_fewest(variants, family, (1, lists, ("clique", ()))), False)
            self.same(accepts_fewest(variants, family, (-1, lists, ("clique", ()))), False)
        self.same(accepts_fewest(3, ((0, 0),), (0, ((), (0,)), None)), False)
        self.same(accepts_fewest(3, ((1, 0),), (0, ((), ()), None)), False)
        self.same(accepts_fewest(3, ((1, 0),), (1, ((0,), ()), None)), False)

    def test_lists_of_too_many_buckets(self):
        # They serve, but not with so few buckets.
        self.same(accepts_fewest(3, STAIRS, (4, ((0, 1, 2), (4, 1, 2)), fewest(3, STAIRS)[2])), False)
        self.same(accepts_fewest(3, STAIRS, (4, ((0, 1, 2, 3), (3, 1, 2)), fewest(3, STAIRS)[2])), True)
        self.same(accepts_fewest(3, STAIRS, (5, ((0, 1, 2), (3, 1, 2)), fewest(3, STAIRS)[2])), False)

    def test_wrong_forms(self):
        number, lists, tree = self.RIGHT
        for value in NOTHING + (
                (), self.RIGHT[:2], self.RIGHT + (None,), list(self.RIGHT), (True,) + self.RIGHT[1:], (None,) + self.RIGHT[1:],
                ("3",) + self.RIGHT[1:], (3.0,) + self.RIGHT[1:], (number, list(lists), tree), (number, None, tree),
                (number, lists[:2], tree), (number, lists + ((),), tree), (number, ((0,), (1,), [2]), tree),
                (number, ((0,), (True,), (2,)), tree), (number, ((0,), (1,), (-1,)), tree), (number, ((0,), (1,), 2), tree),
                (number, lists, list(tree)), (number, tree, lists), (number, ((0,), (1,), (None,)), tree), (10 ** 9,) + self.RIGHT[1:]):
            self.same(accepts_fewest(4, PAIRWISE, value), False)

    def test_great_family(self):
        family = ((10, 0, 0, 0), (0, 10, 0, 0), (0, 0, 10, 0), (0, 0, 0, 10), (3, 3, 2, 2))
        lists = (tuple(range(10)), (3, 4, 5) + (0, 1, 2) + (6, 7, 8, 9), (6, 7) + (0, 1, 2, 3, 4, 5, 8, 9), (8, 9) + tuple(range(8)))
        tree = ("clique", tuple((2, place) for place in range(10)))
        self.same(accepts_fewest(5, family, (10, lists, tree)), True)
        self.same(accepts_fewest(5, family, (10, lists[::-1], tree)), False)
        self.same(accepts_fewest(5, family, (11, lists, tree)), False)


class AllSharesOfASum(Case):
    """Promise 98."""

    def test_needed(self):
        for most in range(21):
            self.same(needed(1, most), 0)
            self.same(needed(2, most), most)
            for variants in (3, 4, 5):
                half = most // 2
                self.same(needed(variants, most), (variants - 1) * half + most - 2 * half)

    def test_lists_for(self):
        for most in range(21):
            self.same(lists_for(1, most), ())
            self.same(lists_for(2, most), (tuple(range(most)),))
            for variants in (3, 4, 5):
                half = most // 2
                rows = [[None] * most for _ in range(variants - 1)]
                for v in range(1, variants):
                    for i in range(half):
                        rows[v - 1][i] = (v - 1) * half + i
                    if most % 2:
                        rows[v - 1][half] = (variants - 1) * half
                for v in range(1, variants):
                    following = v + 1 if v + 1 < variants else 1
                    for i in range(most):
                        if rows[v - 1][i] is None:
                            rows[v - 1][i] = rows[following - 1][most - 1 - i]
                self.same(lists_for(variants, most), tuple(tuple(row) for row in rows))

    def test_the_lists_serve_with_so_many_buckets(self):
        for variants in range(1, 6):
            for most in range(21):
                lists = lists_for(variants, most)
                self.assertEqual(len({bucket for row in lists for bucket in row}), needed(variants, most))
                self.assertTrue(all(bucket < needed(variants, most) for row in lists for bucket in row))
                for row in lists:
                    self.assertEqual(len(set(row)), most)
                for one, two in combinations(lists, 2):
                    for i, j in product(range(most), repeat=2):
                        self.assertFalse(i + j + 2 <= most and one[i] == two[j])

    def test_fewer_are_too_few(self):
        for variants, most in ((1, 3), (2, 4), (3, 1), (3, 2), (3, 3), (3, 4), (4, 1), (4, 2), (4, 3), (5, 1), (5, 2), (5, 3)):
            whole = [shares for shares in product(range(most + 1), repeat=variants - 1) if sum(shares) == most] or [()]
            places = entries_of(whole)
            near = [[k for k in range(at) if together(whole, places[k], places[at])] for at in range(len(places))]

            def can(known, many):
                if len(known) == len(places):
                    return True
                taken = [known[k] for k in near[len(known)]]
                return any(can(known + [b], many) for b in range(min(many, max(known, default=-1) + 2)) if b not in taken)
            many = needed(variants, most)
            self.assertTrue(can([], many))
            self.assertFalse(many > 0 and can([], many - 1))


class SteadyRules(Case):
    """Promise 99."""

    FAMILIES = (
        (4, PAIRWISE), (5, RING), (3, ((1, 1),)), (3, ((2, 0), (0, 2))), (3, ((2, 1), (1, 2))), (4, ((1, 1, 0), (0, 1, 1))),
        (4, ((1, 1, 0), (0, 0, 2))), (3, ((0, 0),)), (2, ((2,),)))

    def test_a_steady_rule_exactly_from_the_fewest_on(self):
        for variants, family in self.FAMILIES:
            many, lists, _ = fewest(variants, family)
            for buckets in range(max(sum(shares) for shares in family), many + 3):
                shares = allowed_shares(family)
                if buckets >= many:
                    rule = tuple(given_by(lists, each, buckets) for each in shares)
                    self.same(needless_leave(variants, buckets, rule), None)
                    self.assertTrue(all(row.count(v) == share for each, row in rule for v, share in enumerate(each)))
                else:
                    allocations = [(buckets - sum(each),) + each for each in shares]
                    rows = [assignments_of(allocation) for allocation in allocations]
                    rules = (tuple(zip(allocations, chosen)) for chosen in product(*rows))
                    self.assertFalse(any(is_steady(rule) for rule in rules))


class Example(Case):
    """Promise 101."""

    def test_example(self):
        self.same(fewest(4, PAIRWISE)[0], 3)
        self.same(fewest(5, RING)[0], 2)


class WrongArguments(Case):
    """Promises 2, 7 and 100."""

    def test_families(self):
        self.checks_arguments(fewest, (3, STAIRS), ("variants", NO_VARIANTS), ("family", NO_FAMILIES))
        self.checks_arguments(
            lambda variants, family: accepts_fewest(variants, family, None), (3, STAIRS), ("variants", NO_VARIANTS),
            ("family", NO_FAMILIES))

    def test_few(self):
        wrong = (-1, 101, 1000, None, True, False, "1", (1,), [1], 1.0)
        self.checks_arguments(
            lambda variants, family, few: accepts_few(variants, family, few, None), (3, STAIRS, 3), ("variants", NO_VARIANTS),
            ("family", NO_FAMILIES), ("few", wrong))
        self.same(accepts_few(3, STAIRS, 100, ("clique", ((1, 0), (1, 1)))), False)
        self.same(accepts_few(3, STAIRS, 0, ("clique", ((1, 0),))), True)

    def test_totals(self):
        wrong = (-1, 21, None, True, False, "3", (3,), [3], 3.0)
        for function in (needed, lists_for):
            self.checks_arguments(function, (3, 3), ("variants", NO_VARIANTS), ("total", wrong))
