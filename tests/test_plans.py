from itertools import combinations, permutations, product

from leastmoved.errors import TooLarge
from leastmoved.plans import bad_triples, first_cycle, first_table, kept_pairs
from tests.base import NOTHING, Case
from tests.brute import all_allocations, keeps_pair, kept_indexes, middles, tables_of

THREE = ((1, 1, 0), (1, 0, 1), (0, 1, 1))
ALL_THREE = ((0, 1), (0, 2), (1, 2))
FIVE = ((1, 1, 0, 0, 0), (0, 1, 1, 0, 0), (0, 0, 1, 1, 0), (0, 0, 0, 1, 1), (1, 0, 0, 0, 1))
RING = ((0, 1), (1, 2), (2, 3), (3, 4), (0, 4))

NO_ALLOCATIONS = NOTHING + (
    (), ((1, 1),) * 7, ((21,),), ((11, 10),), ((1,) * 6,), ((),), (None,), ((1, 1), None), ((1, 1), (1, 1, 0)), ((1, 1), (2, 1)),
    ((1, 1), (3, -1)), ((1, True),), ((1, 1), (True, 1)), ((1, 1), [1, 1]), [(1, 1)], ((1, 1), "11"), (1, 1), ((1, 1), ((1, 1),)),
    (((1, 1),),), ([1, 1], (1, 1)), ((1, 1), (1, 1.0)))
# Wrong as pairs of three allocations.
NO_PAIRS = NOTHING + (
    ((0, 3),), ((-1, 0),), ((1, 0),), ((1, 1),), ((0, 1), (0, 1)), ((0, 1, 2),), ((0,),), (0, 1), ((0, True),), ((False, 1),),
    ([0, 1],), [(0, 1)], ((0, 1), None), ("01",), ((0, 1), (0, 2), (1, 2), (0, 1)), ((0, None),), ((0, (1,)),), ((0, 1.0),), ((),))


def all_pairs(many):
    return list(combinations(range(many), 2))


def all_pair_sets(many):
    """All sets of pairs, each in an order of its own."""
    pairs = all_pairs(many)
    for mask in range(2 ** len(pairs)):
        chosen = tuple(pair for at, pair in enumerate(pairs) if mask >> at & 1)
        yield chosen[::-1] if mask % 3 else chosen


def plans():
    """Small plans, each with some of its pairs in some order."""
    for variants, buckets, many in ((1, 2, 3), (2, 2, 3), (3, 1, 3), (2, 3, 2), (3, 2, 2)):
        for allocations in product(all_allocations(variants, buckets), repeat=many):
            yield allocations, tuple(all_pairs(many))
    for allocations in product(all_allocations(3, 2), repeat=3):
        for pairs in (ALL_THREE, ALL_THREE[::-1], ALL_THREE[:2], ALL_THREE[1:], ((1, 2), (0, 1)), ()):
            yield allocations, pairs
    for allocations in list(product(all_allocations(3, 3), repeat=3))[::7]:
        yield allocations, ((0, 2), (0, 1), (1, 2))
    for at, allocations in enumerate(list(product(all_allocations(4, 2), repeat=4))[::61]):
        pairs = tuple(all_pairs(4))
        yield allocations, pairs[at % 6:] + pairs[:at % 6]
    for allocations in permutations(((2, 1, 0), (1, 1, 1), (0, 1, 2), (1, 2, 0))):
        yield allocations, ((2, 3), (0, 1), (1, 2), (0, 3))
    for at in range(5):
        yield FIVE[at:] + FIVE[:at], RING[at:] + RING[:at]
        yield FIVE[at:] + FIVE[:at], tuple(all_pairs(5))


def joined(pairs, one, two):
    return (one, two) in pairs or (two, one) in pairs


def shortest_cycle(many, pairs):
    """The first cycle, found among all tuples of indexes."""
    for length in range(3, many + 1):
        for tour in product(range(many), repeat=length):
            sides = [(tour[at], tour[(at + 1) % length]) for at in range(length)]
            if len(set(tour)) == length and all(joined(pairs, one, two) for one, two in sides):
                return tour
    return None


class FirstCycle(Case):
    """Promise 56."""

    def test_against_all_tuples(self):
        for many, step in ((1, 1), (2, 1), (3, 1), (4, 1), (5, 29)):
            for pairs in list(all_pair_sets(many))[::step]:
                self.same(first_cycle(((1, 1),) * many, pairs), shortest_cycle(many, pairs))

    def test_six_allocations(self):
        six = ((1, 0),) * 6
        self.same(first_cycle(six, ((0, 1), (1, 2), (2, 3), (3, 4), (4, 5), (0, 5))), (0, 1, 2, 3, 4, 5))
        self.same(first_cycle(six, ((0, 3), (1, 3), (1, 4), (2, 4), (2, 5), (0, 5))), (0, 3, 1, 4, 2, 5))
        self.same(first_cycle(six, ((0, 1), (1, 2), (2, 3), (0, 3), (3, 4), (4, 5), (3, 5))), (3, 4, 5))
        self.same(first_cycle(six, ((0, 1), (0, 2), (0, 3), (0, 4), (0, 5))), None)
        self.same(first_cycle(six, ((1, 2), (2, 4), (4, 5), (1, 5))), (1, 2, 4, 5))
        self.same(first_cycle(six, tuple(all_pairs(6))), (0, 1, 2))

    def test_two_and_one(self):
        self.same(first_cycle(((1,), (1,)), ((0, 1),)), None)
        self.same(first_cycle(((0,),), ()), None)

    def test_without_a_cycle_all_pairs_are_kept(self):
        for allocations, pairs in plans():
            if first_cycle(allocations, pairs) is None:
                self.assertIsNotNone(first_table(allocations, pairs))


class BadTriples(Case):
    """Promise 57."""

    def test_against_the_words(self):
        for allocations, pairs in plans():
            wanted = []
            for i, j, k in combinations(range(len(allocations)), 3):
                three = (allocations[i], allocations[j], allocations[k])
                if {(i, j), (i, k), (j, k)} <= set(pairs) and sum(middles(three)) > sum(three[0]):
                    wanted.append((i, j, k))
            self.same(bad_triples(allocations, pairs), wanted)
            if wanted:
                self.same(first_table(allocations, pairs), None)

    def test_several_in_order(self):
        twice = THREE + THREE
        self.same(bad_triples(twice, tuple(all_pairs(6))[::-1]), [
            (0, 1, 2), (0, 1, 5), (0, 2, 4), (0, 4, 5), (1, 2, 3), (1, 3, 5), (2, 3, 4), (3, 4, 5)])
        self.same(bad_triples(twice, ((3, 4), (3, 5), (4, 5), (0, 1), (0, 2))), [(3, 4, 5)])

    def test_a_new_list_each_time(self):
        self.fresh_list(bad_triples, THREE, ALL_THREE)
        empty = bad_triples(THREE, ())
        self.same(empty, [])
        empty.append(1)
        self.same(bad_triples(THREE, ()), [])

    def test_conflicts_without_bad_triples(self):
        self.same(bad_triples(FIVE, RING), [])
        self.same(first_table(FIVE, RING), None)

    def test_great_sizes(self):
        self.same(bad_triples(((10, 10, 0), (10, 0, 10), (0, 10, 10)), ALL_THREE), [(0, 1, 2)])


class KeptPairs(Case):
    """Promise 55."""

    def test_against_churn_and_transfer(self):
        for allocations, pairs in list(plans())[::2]:
            for table in tables_of(allocations)[::5]:
                self.same(kept_pairs(allocations, pairs, table), kept_indexes(allocations, pairs, table))

    def test_indexes_of_the_pairs_as_they_stand(self):
        table = ((0, 1), (0, 2), (1, 2))
        self.same(kept_pairs(THREE, ALL_THREE, table), (0, 2))
        self.same(kept_pairs(THREE, ((1, 2), (0, 2), (0, 1)), table), (0, 2))
        self.same(kept_pairs(THREE, ((0, 2), (1, 2), (0, 1)), table), (1, 2))
        self.same(kept_pairs(THREE, (), table), ())

    def test_equal_allocations(self):
        # Promise 63: such a pair is kept exactly if both assignments are equal.
        for one, two in tables_of(((2, 1, 1), (2, 1, 1))):
            self.same(kept_pairs(((2, 1, 1),) * 2, ((0, 1),), (one, two)), (0,) if one == two else ())

    def test_great_sizes(self):
        most = (0, 1, 2, 3, 4) * 4
        pairs = tuple(all_pairs(6))
        self.same(kept_pairs(((4,) * 5,) * 6, pairs, (most,) * 6), tuple(range(15)))
        self.same(kept_pairs(((4,) * 5,) * 6, pairs, (most,) * 5 + (most[1:] + most[:1],)), (0, 1, 2, 3, 5, 6, 7, 9, 10, 12))
        self.same(kept_pairs(((0,),), (), ((),)), ())


class FirstTable(Case):
    """Promises 58, 63 and 64."""

    def test_against_all_tables(self):
        for allocations, pairs in plans():
            right = [t for t in tables_of(allocations) if all(keeps_pair(allocations, pair, t) for pair in pairs)]
            self.same(first_table(allocations, pairs), right[0] if right else None)

    def test_greater_ones(self):
        two = ((3, 2, 1, 0), (1, 1, 1, 3))
        right = [table for table in tables_of(two) if keeps_pair(two, (0, 1), table)]
        self.same(first_table(two, ((0, 1),)), right[0])
        self.same(first_table(((12, 0),), ()), ((0,) * 12,))
        self.same(first_table(((3, 3, 2, 2, 2),), ()), ((0, 0, 0, 1, 1, 1, 2, 2, 3, 3, 4, 4),))
        self.same(first_table(((0,),) * 6, tuple(all_pairs(6))), ((),) * 6)

    def test_fewer_pairs(self):
        for allocations in product(all_allocations(3, 2), repeat=3):
            if first_table(allocations, ALL_THREE) is not None:
                for pairs in all_pair_sets(3):
                    self.assertIsNotNone(first_table(allocations, pairs))

    def test_pairs_in_another_order(self):
        for allocations, pairs in list(plans())[::3]:
            self.same(first_table(allocations, pairs[::-1]), first_table(allocations, pairs))


class WrongArguments(Case):
    """Promises 2, 7, 55, 62 and 65."""

    def test_plan(self):
        for function in (first_cycle, bad_triples, first_table):
            self.checks_arguments(function, (THREE, ALL_THREE), ("allocations", NO_ALLOCATIONS), ("pairs", NO_PAIRS))

    def test_kept_pairs(self):
        right = ((0, 1), (0, 2), (1, 2))
        tables = NOTHING + (
            (), right[:2], right + right[2:], list(right), right[::-1], ([0, 1], (0, 2), (1, 2)), ((0, 1), (0, 2), (1, 1)),
            ((0, 1), (0, 2), None), ((0, 1), (0, 2), (1,)), ((0, 1), (0, 2), (1, 2, 0)), ((0, 1), (0, 3), (1, 2)),
            ((0, True), (0, 2), (1, 2)), ((0, 1), (0, 2), (-1, 2)), (0, 1, 2), ("01", "02", "12"), ((0, 1), (0, 2), (1, "2")))
        self.checks_arguments(
            kept_pairs, (THREE, ALL_THREE, right), ("allocations", NO_ALLOCATIONS), ("pairs", NO_PAIRS), ("table", tables))

    def test_search(self):
        for allocations in (((13,),), ((7, 0), (7, 0)), ((2, 3),) * 3, ((4,),) * 4, ((3, 0),) * 5, ((1, 1, 1),) * 6, ((20,),) * 6):
            for pairs in ((), tuple(all_pairs(len(allocations)))):
                with self.assertRaises(TooLarge) as caught:
                    first_table(allocations, pairs)
                self.assertEqual(caught.exception.what, "search")
                # The others take larger plans.
                first_cycle(allocations, pairs)
                bad_triples(allocations, pairs)

    def test_wrong_arguments_come_before_the_search(self):
        self.refused("pairs", first_table, ((20,),) * 6, ((0, 6),))
        self.refused("allocations", first_table, ((21,),) * 6, ())

    def test_twelve_cells_are_let(self):
        for allocations in (((12,),), ((6, 0), (6, 0)), ((2, 2),) * 3, ((3,),) * 4, ((2, 0),) * 5, ((1, 1),) * 6, ((1,),) * 6):
            self.assertIsNotNone(first_table(allocations, tuple(all_pairs(len(allocations)))))
