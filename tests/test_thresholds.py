from itertools import permutations

from leastmoved.thresholds import best_order, boundaries, by_intervals, interval_churn, interval_moves, waste
from tests.base import NOTHING, Case
from tests.brute import all_allocations, assignments_of, lost, moved

FOUR = (4, 4, 4)
GROWN = (2, 4, 6)
# Twenty buckets, five variants, and six allocations are the most.
SIX = ((4, 4, 4, 4, 4), (20, 0, 0, 0, 0), (0, 5, 5, 5, 5), (8, 3, 3, 3, 3), (0, 0, 0, 0, 20), (1, 2, 3, 4, 10))

NO_ALLOCATION = NOTHING + (
    (), (1.0, 2), (1, True), (1, None), (-1, 3), (21,), (10, 11), (1, 1, 1, 1, 1, 1), [4, 4, 4], "444", ((4, 4, 4),))
NO_ORDER = NOTHING + (
    (), (0, 1), (0, 1, 2, 3), (0, 1, 1), (1, 2, 3), (0, 1, -1), (0, True, 2), (False, 1, 2), (0, 1, None), (0, 1.0, 2),
    [0, 1, 2], "012", ((0, 1, 2),))
NOT_TWELVE = NOTHING + (
    (), (12,), (6, 6), (4, 4, 4, 0), (4, 4, 3), (4, 4, 5), (5, -1, 8), (11, True, 0), (4, 4, None), [4, 4, 4], "444")


def sizes():
    """Small numbers of variants and buckets."""
    return ((1, 0), (1, 3), (2, 0), (2, 1), (2, 4), (3, 1), (3, 4), (4, 2), (4, 3), (5, 2))


def alone():
    """Small allocations, each with every order of its variants."""
    for variants, buckets in sizes():
        for allocation in all_allocations(variants, buckets):
            for order in permutations(range(variants)):
                yield allocation, order


def pairs():
    """Two small allocations of the same size, with every order of their variants."""
    for variants, buckets in ((1, 2), (2, 4), (3, 3), (4, 2)):
        for first in all_allocations(variants, buckets):
            for second in all_allocations(variants, buckets):
                for order in permutations(range(variants)):
                    yield first, second, order
    for order in permutations(range(3)):
        for first in all_allocations(3, 6)[::3]:
            for second in all_allocations(3, 6)[::2]:
                yield first, second, order


def laid(allocation, order):
    """The assignment by intervals, as promise 102 tells it."""
    return tuple(v for v in order for _ in range(allocation[v]))


def intervals(allocation, order):
    """The set of the buckets of each variant."""
    row = laid(allocation, order)
    return [{b for b, v in enumerate(row) if v == w} for w in range(len(allocation))]


class ByIntervals(Case):
    """Promises 102 and 103."""

    def test_one_variant_after_another(self):
        for allocation, order in alone():
            self.same(by_intervals(allocation, order), laid(allocation, order))

    def test_only_assignment_in_this_order(self):
        for allocation, order in alone():
            place = [order.index(v) for v in range(len(order))]
            right = []
            for row in assignments_of(allocation):
                later = [(b, c) for b in range(len(row)) for c in range(b + 1, len(row)) if place[row[b]] > place[row[c]]]
                if not later:
                    right.append(row)
            self.same(right, [by_intervals(allocation, order)])

    def test_great_sizes(self):
        wanted = (4,) * 10 + (2,) * 3 + (0,) + (3,) * 4 + (1,) * 2
        self.same(by_intervals((1, 2, 3, 4, 10), (4, 2, 0, 3, 1)), wanted)
        self.same(by_intervals((0, 20), (0, 1)), (1,) * 20)
        self.same(by_intervals((0,), (0,)), ())


class Boundaries(Case):
    """Promises 104 and 105."""

    def test_totals_of_the_shares(self):
        for allocation, order in alone():
            wanted = tuple(sum(allocation[v] for v in order[:place]) for place in range(1, len(order)))
            self.same(boundaries(allocation, order), wanted)

    def test_they_tell_which_buckets_move(self):
        for first, second, order in pairs():
            old, new = by_intervals(first, order), by_intervals(second, order)
            between = set()
            for one, two in zip(boundaries(first, order), boundaries(second, order)):
                between.update(range(min(one, two), max(one, two)))
            self.assertEqual({b for b in range(len(old)) if old[b] != new[b]}, between)
            self.same(interval_churn(first, second, order), len(between))

    def test_great_sizes(self):
        self.same(boundaries((1, 2, 3, 4, 10), (4, 2, 0, 3, 1)), (10, 13, 14, 18))
        self.same(boundaries((20, 0, 0, 0, 0), (0, 1, 2, 3, 4)), (20, 20, 20, 20))
        self.same(boundaries((20, 0, 0, 0, 0), (4, 3, 2, 1, 0)), (0, 0, 0, 0))
        self.same(boundaries((7,), (0,)), ())


class Churn(Case):
    """Promises 104 and 106."""

    def test_churn_of_the_assignments(self):
        for first, second, order in pairs():
            wanted = moved(laid(first, order), laid(second, order))
            self.same(interval_churn(first, second, order), wanted)
            self.same(interval_churn(second, first, order), wanted)
            self.same(waste(first, second, order), wanted - lost(first, second))

    def test_between_the_transfer_and_so_many_times_it(self):
        for first, second, order in pairs():
            least = lost(first, second)
            got = interval_churn(first, second, order)
            self.assertLessEqual(least, got)
            self.assertLessEqual(got, max(len(order) - 1, 1) * least)

    def test_buckets_in_both_intervals_stay(self):
        for first, second, order in pairs():
            both = [len(one & two) for one, two in zip(intervals(first, order), intervals(second, order))]
            self.same(interval_churn(first, second, order), sum(first) - sum(both))

    def test_no_waste_exactly_if_intervals_contain_each_other(self):
        for first, second, order in pairs():
            contained = [one <= two or two <= one for one, two in zip(intervals(first, order), intervals(second, order))]
            self.assertEqual(waste(first, second, order) == 0, all(contained))

    def test_bounds_are_reached(self):
        first, second, order = (1, 5, 5, 5, 4), (0, 5, 5, 5, 5), (0, 1, 2, 3, 4)
        self.same((interval_churn(first, second, order), waste(first, second, order)), (4, 3))
        order = (1, 2, 3, 4, 0)
        self.same((interval_churn(first, second, order), waste(first, second, order)), (1, 0))
        self.same((interval_churn(SIX[1], SIX[4], order), waste(SIX[1], SIX[4], order)), (20, 0))
        self.same((interval_churn((3,), (3,), (0,)), waste((3,), (3,), (0,))), (0, 0))

    def test_example(self):
        self.same(lost(FOUR, GROWN), 2)
        self.same((interval_churn(FOUR, GROWN, (0, 1, 2)), waste(FOUR, GROWN, (0, 1, 2))), (4, 2))


class Moves(Case):
    """Promise 107."""

    def test_groups_of_consecutive_buckets(self):
        for first, second, order in pairs():
            old, new = laid(first, order), laid(second, order)
            groups = {}
            for b in range(len(old)):
                if old[b] != new[b]:
                    groups.setdefault((old[b], new[b]), []).append(b)
            for buckets in groups.values():
                self.assertEqual(buckets, list(range(buckets[0], buckets[0] + len(buckets))))
            wanted = [(v, w, buckets[0], len(buckets)) for (v, w), buckets in groups.items()]
            got = interval_moves(first, second, order)
            self.same(got, sorted(wanted, key=lambda row: row[2]))
            self.assertEqual(sum(row[3] for row in got), interval_churn(first, second, order))

    def test_ordered_by_first_buckets(self):
        self.same(interval_moves(FOUR, GROWN, (0, 1, 2)), [(0, 1, 2, 2), (1, 2, 6, 2)])
        self.same(interval_moves(FOUR, GROWN, (2, 1, 0)), [(1, 2, 4, 2), (0, 1, 8, 2)])
        self.same(interval_moves(FOUR, FOUR, (2, 1, 0)), [])

    def test_a_new_list(self):
        self.fresh_list(interval_moves, FOUR, GROWN, (0, 1, 2))


class BestOrder(Case):
    """Promise 108."""

    def chains(self):
        for variants, buckets in ((1, 3), (2, 3), (3, 2)):
            everything = all_allocations(variants, buckets)
            for first in everything:
                yield (first,)
                for second in everything:
                    yield (first, second)
                    for third in everything[::2]:
                        yield (first, second, third)
        for first in all_allocations(3, 6)[::2]:
            for second in all_allocations(3, 6):
                yield (first, second)
        for second in all_allocations(4, 4):
            yield ((1, 1, 1, 1), second)
            yield ((2, 0, 1, 1), second, (0, 3, 0, 1), second)
        yield SIX

    def test_against_all_orders(self):
        for chain in self.chains():
            steps = list(zip(chain, chain[1:]))
            totals = {}
            for order in permutations(range(len(chain[0]))):
                totals[order] = sum(moved(laid(one, order), laid(two, order)) for one, two in steps)
            least = min(totals.values())
            best = min(order for order in totals if totals[order] == least)
            transfers = sum(lost(one, two) for one, two in steps)
            self.same(best_order(chain), (best, least, transfers))
            self.assertGreaterEqual(least, transfers)

    def test_two_variants_with_different_shares(self):
        for first in all_allocations(4, 5)[::3]:
            for second in all_allocations(4, 5):
                if sum(a != b for a, b in zip(first, second)) <= 2:
                    _, churns, transfers = best_order((first, second))
                    self.same(churns, transfers)

    def test_examples(self):
        self.same(best_order((FOUR, GROWN)), ((0, 2, 1), 2, 2))
        self.same(best_order(((2, 2, 2, 2), (5, 1, 1, 1))), ((1, 0, 2, 3), 4, 3))
        self.same(best_order(((0,),)), ((0,), 0, 0))


class WrongArguments(Case):
    """Promises 2, 7 and 109."""

    def test_one_allocation(self):
        for function in (by_intervals, boundaries):
            self.checks_arguments(function, (FOUR, (0, 1, 2)), ("allocation", NO_ALLOCATION), ("order", NO_ORDER))
            self.refused("order", function, (4, 4), (0, 1, 2))

    def test_two_allocations(self):
        for function in (interval_churn, waste, interval_moves):
            self.checks_arguments(
                function, (FOUR, GROWN, (0, 1, 2)),
                ("first", NO_ALLOCATION), ("second", NOT_TWELVE), ("order", NO_ORDER))

    def test_best_order(self):
        wrong = NOTHING + (
            (), FOUR, (FOUR, (4, 4, 3)), (FOUR, (6, 6)), (FOUR, None), ((4, 4, 4, 4, 5),), ((1,) * 6,), ((),), [FOUR], ([4],),
            (FOUR, [4, 4, 4]), (FOUR, (11, True, 0)), SIX + SIX[:1], (FOUR,) * 7, ((-1, 3),), ("44",))
        self.checks_arguments(best_order, (SIX,), ("allocations", wrong))

    def test_bounds_are_let(self):
        order = (4, 3, 2, 1, 0)
        self.same(by_intervals(SIX[0], order), (4,) * 4 + (3,) * 4 + (2,) * 4 + (1,) * 4 + (0,) * 4)
        self.same(interval_churn(SIX[0], SIX[1], order), 16)
        self.same(interval_moves(SIX[0], SIX[1], order), [(4, 0, 0, 4), (3, 0, 4, 4), (2, 0, 8, 4), (1, 0, 12, 4)])
        self.same(best_order(SIX)[2], 16 + 20 + 8 + 17 + 10)
        self.same((boundaries((0,), (0,)), interval_moves((0,), (0,), (0,))), ((), []))
