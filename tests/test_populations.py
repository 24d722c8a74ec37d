from itertools import combinations, permutations, product

from leastmoved.populations import coexist, entries, fault, greatest_clique, is_family
from tests.base import NOTHING, Case
from tests.brute import allowed_shares, entries_of, together

PAIRWISE = ((1, 1, 0), (1, 0, 1), (0, 1, 1))
RING = ((1, 1, 0, 0), (0, 1, 1, 0), (0, 0, 1, 1), (1, 0, 0, 1))
STAIRS = ((3, 1), (1, 3))
FIVE = ((4, 1, 1, 1), (1, 4, 1, 1), (1, 1, 4, 1), (1, 1, 1, 4), (2, 2, 2, 2))

NO_VARIANTS = (0, 6, -1, None, True, False, "3", (3,), [3])
# Wrong as a family for three variants.
NO_FAMILIES = NOTHING + (
    (), ((1, 1),) * 6, [(1, 1)], ([1, 1],), ((1, 1), [1, 1]), ((1,),), ((1, 1, 1),), ((1, 1), (1,)), ((1, 1), None), (None,),
    (1, 1), ((-1, 1),), ((10, 1),), ((11, 0),), ((1, 1), (5, 6)), ((True, 1),), ((1, False),), ((1, None),), ((1, "1"),), ("11",),
    ((1, (1,)),), ((12, -2),), (((1, 1),),), ((),), ((1, 1.0),))
NO_LISTS = NOTHING + (
    (), ((0, 1, 2),), ((0, 1, 2), (3, 1, 2), ()), [(0, 1, 2), (3, 1, 2)], ((0, 1, 2), [3, 1, 2]), ((0, 1, 2), None), ((0, 1, 2), 3),
    ((0, 1, 0), (3, 1, 2)), ((0, 1, 2), (3, 1, 2, 3)), ((0, 1, 2), (3, 1, -1)), ((0, 1, 1001), (3, 1, 2)), ((0, True, 2), (3, 1, 2)),
    ((0, 1, 2), (3, 1, None)), ((0, 1, 2), (3, 1, "2")), ("012", "312"), (0, 1), ((0, 1, 2), (3, 1, (2,))), ((0, 1, 2), (3.0, 1, 2)))


def families():
    """Small families, each with its number of variants."""
    yield from [(1, ((),)), (1, ((), ())), (2, ((0,),)), (2, ((3,),)), (2, ((1,), (4,), (2,))), (5, ((0, 0, 0, 0),))]
    for many in (1, 2):
        for family in product(product(range(3), repeat=2), repeat=many):
            yield 3, family
    for family in list(product(product(range(2), repeat=3), repeat=3))[::3]:
        yield 4, family
    for family in list(product(product(range(3), repeat=3), repeat=2))[::17]:
        yield 4, family
    for family in list(combinations(product(range(2), repeat=4), 4))[::23]:
        yield 5, family
    for family in (PAIRWISE, PAIRWISE[::-1], ((1, 1, 1), (2, 0, 1), (0, 2, 0)), ((2, 1, 0), (0, 2, 1), (1, 0, 2), (1, 1, 1))):
        yield 4, family
    for family in (RING, RING[:3], ((2, 1, 0, 0), (0, 1, 2, 0), (0, 0, 1, 1), (1, 0, 0, 1)), ((1, 1, 1, 0), (0, 1, 1, 1), (1, 0, 0, 2))):
        yield 5, family
    for family in (STAIRS, ((2, 2), (3, 1), (1, 3)), ((4, 0), (0, 4)), ((3, 0), (2, 1), (1, 2), (0, 3))):
        yield 3, family


FAMILIES = list(families())


def serves(family, lists):
    """The lists serve the family, as promise 92 tells it."""
    for shares in allowed_shares(family):
        if any(len(row) < share for row, share in zip(lists, shares)):
            return False
        heads = [bucket for row, share in zip(lists, shares) for bucket in row[:share]]
        if len(set(heads)) < len(heads):
            return False
    return True


class Families(Case):
    """Promise 90."""

    def test_right_ones(self):
        for variants, family in FAMILIES:
            self.same(is_family(family, variants), True)
        for family, variants in ((((),) * 5, 1), (((10,),), 2), (((5, 5),), 3), (FIVE, 5), (((10, 0, 0, 0),) * 5, 5)):
            self.same(is_family(family, variants), True)

    def test_wrong_ones(self):
        for value in NO_FAMILIES:
            self.same(is_family(value, 3), False)
        self.same(is_family(PAIRWISE, 3), False)
        self.same(is_family(PAIRWISE, 5), False)
        self.same(is_family((), 1), False)
        self.same(is_family(((0,),), 1), False)
        self.same(is_family(((11,),), 2), False)
        self.same(is_family(((3, 3, 3, 2),), 5), False)

    def test_entries(self):
        for variants, family in FAMILIES:
            self.same(entries(variants, family), entries_of(family))
        self.same(entries(3, ((2, 0), (1, 1))), [(1, 0), (1, 1), (2, 0)])
        self.same(entries(2, ((10,),)), [(1, place) for place in range(10)])
        self.same(len(entries(5, FIVE)), 16)

    def test_a_new_list_each_time(self):
        self.fresh_list(entries, 4, PAIRWISE)
        empty = entries(1, ((),))
        self.same(empty, [])
        empty.append((1, 0))
        self.same(entries(1, ((),)), [])


class Coexist(Case):
    """Promise 91."""

    def test_against_all_allowed_shares(self):
        for variants, family in FAMILIES:
            places = entries_of(family)
            for one, two in product(places, repeat=2):
                self.same(coexist(variants, family, one, two), together(family, one, two))

    def test_same_entry_and_same_variant(self):
        self.same(coexist(3, STAIRS, (1, 0), (1, 0)), False)
        self.same(coexist(3, STAIRS, (1, 0), (1, 2)), True)
        self.same(coexist(3, STAIRS, (1, 1), (2, 1)), False)
        self.same(coexist(3, STAIRS, (1, 2), (2, 0)), True)
        self.same(coexist(5, FIVE, (1, 3), (4, 0)), True)
        self.same(coexist(5, FIVE, (4, 1), (1, 2)), False)


class GreatestClique(Case):
    """Promise 93."""

    def test_against_all_sets_of_entries(self):
        for variants, family in FAMILIES:
            places = entries_of(family)
            near = {(one, two) for one, two in product(places, repeat=2) if together(family, one, two)}
            greatest = 0
            for mask in range(2 ** len(places)):
                chosen = [entry for at, entry in enumerate(places) if mask >> at & 1]
                if all(pair in near for pair in combinations(chosen, 2)):
                    greatest = max(greatest, len(chosen))
            found = []
            for heights in product(range(1 + max([0] + [i + 1 for _, i in places])), repeat=variants - 1):
                chosen = [(v, i) for v, height in enumerate(heights, 1) for i in range(height)]
                right = all(entry in places for entry in chosen) and all(pair in near for pair in combinations(chosen, 2))
                if right and sum(heights) == greatest:
                    found.append(heights)
            self.same(greatest_clique(variants, family), (greatest, found[0]))

    def test_first_heights(self):
        self.same(greatest_clique(3, STAIRS), (4, (1, 3)))
        self.same(greatest_clique(3, ((3, 1), (2, 2), (1, 3))), (4, (1, 3)))
        self.same(greatest_clique(3, ((4, 0), (1, 2))), (4, (4, 0)))
        self.same(greatest_clique(5, RING), (2, (0, 0, 1, 1)))
        self.same(greatest_clique(4, PAIRWISE), (3, (1, 1, 1)))
        self.same(greatest_clique(1, ((),)), (0, ()))
        self.same(greatest_clique(4, ((0, 0, 0),)), (0, (0, 0, 0)))

    def test_great_sizes(self):
        self.same(greatest_clique(5, FIVE), (8, (2, 2, 2, 2)))
        ten = ((10, 0, 0, 0), (0, 10, 0, 0), (0, 0, 10, 0), (0, 0, 0, 10))
        self.same(greatest_clique(5, ten), (10, (0, 0, 0, 10)))
        wide = ((7, 1, 1, 1), (1, 7, 1, 1), (1, 1, 7, 1), (1, 1, 1, 7), (5, 5, 0, 0))
        self.same(greatest_clique(5, wide), (12, (5, 5, 1, 1)))


class Fault(Case):
    """Promise 92."""

    def test_against_the_words(self):
        rows = [row for many in range(4) for row in permutations(range(3), many)]
        for variants, family in FAMILIES[:70:3]:
            some = list(product(rows, repeat=variants - 1))
            for lists in some[::1 + len(some) // 150]:
                self.check(variants, family, lists)

    def test_lists_of_stairs_and_rings(self):
        for lists in product(permutations(range(4), 3), repeat=2):
            self.check(3, STAIRS, lists)
        for lists in product(((0,), (1,), (2,), (), (1, 0)), repeat=3):
            self.check(4, PAIRWISE, lists)
        for lists in list(product(((0,), (1,), (), (1, 0)), repeat=4))[::3]:
            self.check(5, RING, lists)

    def check(self, variants, family, lists):
        found = fault(variants, family, lists)
        self.assertEqual(found is None, serves(family, lists))
        wanted = None
        for index, shares in enumerate(family):
            heads = [row[:share] for row, share in zip(lists, shares)]
            short = [v for v, share in enumerate(shares, 1) if len(lists[v - 1]) < share]
            common = [(v, w, b) for v in range(len(heads)) for w in range(v + 1, len(heads))
                      for b in sorted(set(heads[v]) & set(heads[w]))]
            if short:
                wanted = (index, (short[0],), None)
                break
            if common:
                v, w, bucket = common[0]
                wanted = (index, (v + 1, w + 1), bucket)
                break
        self.same(found, wanted)

    def test_kinds_of_faults(self):
        self.same(fault(3, STAIRS, ((0, 1, 2), (3, 1, 2))), None)
        self.same(fault(3, STAIRS, ((0, 1), (3, 1))), (0, (1,), None))
        self.same(fault(3, STAIRS, ((0, 1, 2), (3, 1))), (1, (2,), None))
        self.same(fault(3, STAIRS, ((0, 1, 3), (3, 1))), (0, (1, 2), 3))
        self.same(fault(3, STAIRS, ((0, 1, 2), (3, 0, 2))), (1, (1, 2), 0))
        self.same(fault(3, ((2, 2),), ((5, 3), (3, 5))), (0, (1, 2), 3))
        self.same(fault(3, STAIRS, ((0, 1, 2, 3), (3, 1, 2, 0))), None)
        self.same(fault(4, ((1, 1, 1),), ((7,), (8,), (8,))), (0, (2, 3), 8))
        self.same(fault(4, ((1, 1, 1),), ((8,), (7,), (8,))), (0, (1, 3), 8))
        self.same(fault(4, ((1, 1, 1),), ((8,), (8,), ())), (0, (3,), None))
        self.same(fault(1, ((),), ()), None)

    def test_great_sizes(self):
        self.same(fault(2, ((10,),), (tuple(range(1000, 990, -1)),)), None)
        self.same(fault(2, ((10,),), (tuple(range(9)),)), (0, (1,), None))
        self.same(fault(2, ((0,),), (tuple(range(1001)),)), None)


class Example(Case):
    """Promise 101."""

    def test_example(self):
        self.same(greatest_clique(4, PAIRWISE)[0], 3)
        self.same(greatest_clique(5, RING)[0], 2)
        self.same(fault(5, RING, ((0,), (1,), (0,), (1,))), None)


class WrongArguments(Case):
    """Promises 2, 7 and 100."""

    def test_is_family(self):
        self.checks_arguments(lambda variants: is_family(None, variants), (3,), ("variants", NO_VARIANTS))
        self.checks_arguments(lambda variants: is_family(STAIRS, variants), (3,), ("variants", NO_VARIANTS))

    def test_families(self):
        for function in (entries, greatest_clique):
            self.checks_arguments(function, (3, STAIRS), ("variants", NO_VARIANTS), ("family", NO_FAMILIES))
            self.refused("family", function, 1, ())
            self.refused("family", function, 4, STAIRS)

    def test_coexist(self):
        wrong = NOTHING + (
            (), (1,), (1, 0, 0), (1, 3), (2, 3), (0, 0), (3, 0), (-1, 0), (1, -1), [1, 0], (True, 0), (1, False), (1, None), "10",
            ((1, 0),), (1, "0"), (1.0, 0), ((1,), 0), ([1], 0))
        self.checks_arguments(
            coexist, (3, STAIRS, (1, 0), (2, 0)), ("variants", NO_VARIANTS), ("family", NO_FAMILIES), ("first", wrong),
            ("second", wrong))

    def test_fault(self):
        self.checks_arguments(
            fault, (3, STAIRS, ((0, 1, 2), (3, 1, 2))), ("variants", NO_VARIANTS), ("family", NO_FAMILIES), ("lists", NO_LISTS))
        self.same(fault(3, STAIRS, ((0, 1, 1000), (3, 1, 2))), None)
