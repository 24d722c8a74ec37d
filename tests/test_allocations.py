from itertools import permutations, product
from math import gcd

from leastmoved.allocations import (
    apportioned, deviation, is_allocation, is_nearest, is_order, medians, renamed_shares, transfer)
from tests.base import NOTHING, Case
from tests.brute import all_allocations, distance, lost

# Wrong as an allocation of 0 to 20 buckets to 1 to 5 variants.
NO_ALLOCATIONS = NOTHING + (
    (), (0, 0, 0, 0, 0, 0), (1, 1, 1, 1, 1, 1), (21,), (20, 1), (10, 11), (-1,), (-1, 3), (3, -1), (True, 1), (1, False),
    (None, 1), ("1", 1), ((1,), 1), (1.0, 1), [2, 2], (2, [2]), "22")
# Wrong as an allocation of four buckets to two variants.
NOT_FOUR = NOTHING + (
    (), (4,), (2, 1), (2, 3), (2, 1, 1), (2, 2, 0), (5, -1), (-1, 5), (3, True), (True, 3), (4, False), (4, None),
    (2, "2"), (2.0, 2), [2, 2], ((2, 2),), (2, (2,)))
NO_WEIGHTS = NOTHING + (
    (), (0,), (0, 0, 0), (0,) * 5, (1,) * 6, (1000001,), (1, 1000001), (-1, 2), (2, -1), (True,), (1, True), (1, None),
    ("1",), (1.0,), [1, 1], ((1, 1),))
NO_BUCKETS = (21, -1, 100, None, True, False, "4", 4.0, (4,), [4], ())
WEIGHTS = (
    (1, 1, 1), (1, 2, 3), (0, 1, 1), (1, 0, 0), (5, 3, 3), (999999, 1, 1000000), (1, 1), (7,), (1, 1, 1, 1), (2, 1, 1, 2),
    (3, 0, 3), (1, 1, 4), (10, 9, 1))


class Predicates(Case):
    """Promises 4, 5, 16 and 17."""

    def test_right_allocations(self):
        for value, variants, buckets in (
                ((2, 2, 0), 3, 4), ((0,), 1, 0), ((20,), 1, 20), ((0, 0, 0, 0, 0), 5, 0), ((4, 4, 4, 4, 4), 5, 20),
                ((0, 20), 2, 20), ((0, 4), 2, 4), ((4, 0), 2, 4)):
            self.same(is_allocation(value, variants, buckets), True)

    def test_other_sizes(self):
        self.same(is_allocation((1,) * 6, 6, 6), True)
        self.same(is_allocation((30,), 1, 30), True)
        self.same(is_allocation((), 0, 0), True)
        for value, variants, buckets in (
                ((2, 2), 3, 4), ((2, 2), 1, 4), ((2, 2), 2, 3), ((2, 2), 2, 5), ((2, 2), 2, -4), ((2, 2), -2, 4),
                ((), 1, 0), ((), 0, 1), ((), 0, -1), ((0,), 1, -1), ((30,), 1, 31)):
            self.same(is_allocation(value, variants, buckets), False)

    def test_wrong_allocations_of_every_kind(self):
        for value in NOT_FOUR:
            self.same(is_allocation(value, 2, 4), False)
        self.same(is_allocation((True,), 1, 1), False)
        self.same(is_allocation((False,), 1, 0), False)
        self.same(is_allocation((-1, 1), 2, 0), False)

    def test_is_allocation_is_exact(self):
        right = all_allocations(3, 4)
        for value in product(range(-2, 7), repeat=3):
            self.same(is_allocation(value, 3, 4), value in right)

    def test_right_orders(self):
        self.same(is_order((), 0), True)
        self.same(is_order((0,), 1), True)
        for many in range(1, 6):
            for order in permutations(range(many)):
                self.same(is_order(order, many), True)
        self.same(is_order(tuple(range(20))[::-1], 20), True)

    def test_wrong_orders(self):
        for value in NOTHING + (
                (), (0, 1), (0, 1, 2, 3), (0, 1, 1), (0, 0, 0), (1, 2, 3), (0, 1, 3), (-1, 0, 1), (0, True, 2),
                (False, 1, 2), (0, 1, None), (0, 1, "2"), (0, 1, 2.0), [0, 1, 2], "012", (0, 1, (2,)), ([0], 1, 2)):
            self.same(is_order(value, 3), False)
        self.same(is_order((), -1), False)
        self.same(is_order((), 1), False)
        self.same(is_order((0,), 0), False)
        self.same(is_order((True, 0), 2), False)
        self.same(is_order((0, 1, 1), 2), False)
        self.same(is_order((0, 1, 0, 1), 2), False)

    def test_is_order_is_exact(self):
        for value in product(range(-1, 4), repeat=3):
            self.same(is_order(value, 3), sorted(value) == [0, 1, 2])


class Transfers(Case):
    """Promises 9 and 10."""

    def test_transfer_is_what_is_lost_and_what_is_gained(self):
        everything = all_allocations(3, 4)
        for first, second in product(everything, repeat=2):
            got = transfer(first, second)
            self.same(got, lost(first, second))
            self.assertEqual(got, lost(second, first))
            self.assertEqual(got, transfer(second, first))
            self.assertEqual(got == 0, first == second)

    def test_triangle(self):
        everything = all_allocations(3, 3)
        for first, second, third in product(everything, repeat=3):
            self.assertLessEqual(transfer(first, third), transfer(first, second) + transfer(second, third))

    def test_sizes(self):
        self.same(transfer((0,), (0,)), 0)
        self.same(transfer((20,), (20,)), 0)
        self.same(transfer((20, 0, 0, 0, 0), (0, 5, 5, 5, 5)), 20)
        self.same(transfer((2, 2, 0), (1, 1, 2)), 2)

    def test_medians_in_any_order(self):
        self.same(medians((2, 2, 0), (1, 1, 2), (4, 0, 0)), (2, 1, 0))
        everything = all_allocations(3, 3)
        for three in product(everything, repeat=3):
            wanted = tuple(sorted(shares)[1] for shares in zip(*three))
            for first, second, third in permutations(three):
                self.same(medians(first, second, third), wanted)

    def test_median_of_two_equal_shares_is_this_one(self):
        self.same(medians((3, 0), (3, 0), (0, 3)), (3, 0))
        self.same(medians((0, 3), (3, 0), (0, 3)), (0, 3))
        self.same(medians((0,), (0,), (0,)), (0,))


class Apportioning(Case):
    """Promises 11, 12 and 13."""

    def test_apportioned(self):
        self.same(apportioned((1, 1, 1), 4), (2, 1, 1))
        self.same(apportioned((1, 1, 1), 5), (2, 2, 1))
        self.same(apportioned((1, 2, 3), 6), (1, 2, 3))
        self.same(apportioned((1, 1, 4), 3), (1, 0, 2))
        self.same(apportioned((1, 2), 1), (0, 1))
        self.same(apportioned((7,), 20), (20,))
        self.same(apportioned((1, 1, 1, 1, 1), 0), (0, 0, 0, 0, 0))

    def test_equal_rests_go_to_the_lesser_variants(self):
        self.same(apportioned((1, 1), 1), (1, 0))
        self.same(apportioned((1, 1, 1, 1), 2), (1, 1, 0, 0))
        self.same(apportioned((2, 1, 1, 2), 3), (1, 1, 0, 1))
        self.same(apportioned((3, 1, 3), 2), (1, 0, 1))

    def test_weights_of_zero_get_nothing(self):
        self.same(apportioned((0, 1, 0, 1, 0), 20), (0, 10, 0, 10, 0))
        self.same(apportioned((0, 1, 1, 1), 4), (0, 2, 1, 1))
        self.same(apportioned((0, 1000000), 7), (0, 7))

    def test_great_weights(self):
        self.same(apportioned((1000000,) * 5, 20), (4, 4, 4, 4, 4))
        self.same(apportioned((1000000, 999999), 1), (1, 0))
        self.same(apportioned((999999, 1000000), 1), (0, 1))
        self.same(apportioned((1, 1000000), 20), (0, 20))
        self.same(apportioned((1, 0, 0, 0, 0), 20), (20, 0, 0, 0, 0))

    def test_apportioned_as_told(self):
        for weights in WEIGHTS:
            for buckets in (0, 1, 2, 3, 7, 19, 20):
                got = apportioned(weights, buckets)
                self.assertTrue(is_allocation(got, len(weights), buckets))
                floors = [buckets * weight // sum(weights) for weight in weights]
                rests = [buckets * weight % sum(weights) for weight in weights]
                raised = [v for v in range(len(weights)) if got[v] == floors[v] + 1]
                self.assertEqual([got[v] for v in range(len(weights)) if v not in raised],
                                 [floors[v] for v in range(len(weights)) if v not in raised])
                by_rest = sorted(range(len(weights)), key=lambda v: (-rests[v], v))
                self.assertEqual(raised, sorted(by_rest[:buckets - sum(floors)]))

    def test_deviation(self):
        self.same(deviation((1, 1, 1), (2, 1, 1)), (4, 3))
        self.same(deviation((1, 2), (1, 2)), (0, 1))
        self.same(deviation((3, 3), (1, 0)), (1, 1))
        self.same(deviation((1, 1, 1), (0, 0, 0)), (0, 1))
        self.same(deviation((0, 1000000), (20, 0)), (40, 1))
        self.same(deviation((1000000, 999999), (1, 0)), (1999998, 1999999))

    def test_deviation_in_lowest_terms(self):
        for weights in WEIGHTS:
            for allocation in all_allocations(len(weights), 3):
                above, below = deviation(weights, allocation)
                wanted = distance(weights, allocation)
                self.same((above, below), (wanted.numerator, wanted.denominator))
                self.assertEqual(gcd(above, below), 1)

    def test_is_nearest_against_all_allocations(self):
        for weights in WEIGHTS:
            for buckets in (0, 1, 2, 4, 5):
                everything = all_allocations(len(weights), buckets)
                least = min(distance(weights, allocation) for allocation in everything)
                self.assertEqual(distance(weights, apportioned(weights, buckets)), least)
                for allocation in everything:
                    wanted = distance(weights, allocation) == least
                    self.same(is_nearest(weights, allocation), wanted)

    def test_is_nearest(self):
        self.same(is_nearest((1, 1, 1), (1, 2, 1)), True)
        self.same(is_nearest((1, 1, 1), (2, 2, 0)), False)
        self.same(is_nearest((1, 1), (1, 0)), True)
        self.same(is_nearest((1, 1), (0, 1)), True)
        self.same(is_nearest((1, 2, 1), (2, 1, 1)), False)


class Example(Case):
    """Promise 19."""

    def test_transfer(self):
        self.same(transfer((2, 2, 0), (1, 1, 2)), 2)

    def test_quotas_of_four_thirds(self):
        self.same(apportioned((1, 1, 1), 4), (2, 1, 1))
        self.same(deviation((1, 1, 1), (2, 1, 1)), (4, 3))
        for allocation in ((2, 1, 1), (1, 2, 1), (1, 1, 2)):
            self.same(is_nearest((1, 1, 1), allocation), True)


class Renaming(Case):
    """Promise 16."""

    def test_renamed_shares(self):
        self.same(renamed_shares((5, 6, 7), (2, 0, 1)), (6, 7, 5))
        self.same(renamed_shares((20,), (0,)), (20,))
        self.same(renamed_shares((1, 2, 3, 4, 5), (4, 3, 2, 1, 0)), (5, 4, 3, 2, 1))

    def test_order_of_v_gets_the_share_of_v(self):
        for allocation in all_allocations(3, 4):
            for order in permutations(range(3)):
                got = renamed_shares(allocation, order)
                self.assertEqual([got[order[v]] for v in range(3)], list(allocation))

    def test_the_order_that_leads_back(self):
        for order in permutations(range(4)):
            back = tuple(order.index(v) for v in range(4))
            self.same(renamed_shares(renamed_shares((1, 2, 3, 4), order), back), (1, 2, 3, 4))

    def test_transfer_stays(self):
        everything = all_allocations(3, 3)
        for first, second, order in product(everything, everything, permutations(range(3))):
            wanted = transfer(first, second)
            self.assertEqual(transfer(renamed_shares(first, order), renamed_shares(second, order)), wanted)


class WrongArguments(Case):
    """Promises 2, 7 and 18."""

    def test_transfer(self):
        self.checks_arguments(transfer, ((2, 2), (1, 3)), ("first", NO_ALLOCATIONS), ("second", NOT_FOUR))

    def test_medians(self):
        self.checks_arguments(
            medians, ((2, 2), (1, 3), (4, 0)),
            ("first", NO_ALLOCATIONS), ("second", NOT_FOUR), ("third", NOT_FOUR))

    def test_apportioned(self):
        self.checks_arguments(apportioned, ((1, 2), 4), ("weights", NO_WEIGHTS), ("buckets", NO_BUCKETS))

    def test_weighted(self):
        more = NO_ALLOCATIONS + ((4,), (2, 1, 1))
        for function in (deviation, is_nearest):
            self.checks_arguments(function, ((1, 2), (1, 3)), ("weights", NO_WEIGHTS), ("allocation", more))

    def test_renamed_shares(self):
        wrong = NOTHING + ((), (0,), (0, 1, 2), (1, 1), (0, 2), (True, 0), (0, None), [0, 1], (0, 1, 2, 3, 4))
        self.checks_arguments(renamed_shares, ((2, 2), (1, 0)), ("allocation", NO_ALLOCATIONS), ("order", wrong))

    def test_bounds_are_let(self):
        five, full = (4, 4, 4, 4, 4), (20,)
        self.same(medians(five, five, five), five)
        self.same(medians(full, full, full), full)
        self.same(transfer((0, 0, 0, 0, 0), (0, 0, 0, 0, 0)), 0)
        self.same(apportioned((1000000,), 20), (20,))
        self.same(apportioned((1000000, 0, 0, 0, 0), 0), (0, 0, 0, 0, 0))
        self.same(deviation((1000000,) * 5, five), (0, 1))
        self.same(is_nearest((1000000,), full), True)
        self.same(is_nearest((1,), (0,)), True)
        self.same(renamed_shares(five, (1, 2, 3, 4, 0)), five)

    def test_wrong_lists_are_not_modified(self):
        wrong = [2, 2]
        self.refused("first", transfer, wrong, wrong)
        self.same(wrong, [2, 2])
