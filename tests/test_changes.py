from itertools import permutations, product

from leastmoved.allocations import renamed_shares
from leastmoved.assignments import rearranged, renamed
from leastmoved.changes import choices, excess, first_change, is_minimal, needless
from tests.base import NOTHING, Case
from tests.brute import (
    all_allocations, all_assignments, assignments_of, is_least, least_changes, lost, moved, shares_of)

# The sizes at which everything is compared with everything.
SIZES = ((1, 0), (1, 3), (2, 4), (3, 0), (3, 4), (4, 3), (5, 2))
# Wrong as an allocation of 0 to 20 buckets to 1 to 5 variants.
NO_ALLOCATIONS = NOTHING + (
    (), (0,) * 6, (21,), (20, 1), (-1, 4), (True, 2), (None, 3), ("1", 2), [1, 2], ((1, 2),))
# Wrong as an assignment of three buckets to two variants.
NOT_THREE = NOTHING + (
    (), (0, 1), (0, 1, 1, 0), (0, 1, 2), (0, -1, 0), (0, True, 1), (0, 1, None), (0, 1, "1"), [0, 1, 1], ((0, 1, 1),))
NO_VARIANTS = (0, 6, -1, None, True, False, "2", (2,), [2])
NO_BUCKET_OF_THREE = (3, -1, 100, None, True, False, "0", (0,), [0])


def cases():
    """Each assignment of each size with each allocation to which it can be changed."""
    for variants, buckets in SIZES:
        for assignment, allocation in product(all_assignments(variants, buckets), all_allocations(variants, buckets)):
            yield allocation, assignment


def needless_moves(variants, first, second):
    """All needless moves with their reasons, as promise 21 tells them."""
    before, after = shares_of(first, variants), shares_of(second, variants)
    decreases = [after[v] < before[v] for v in range(variants)]
    increases = [after[v] > before[v] for v in range(variants)]
    found = []
    for bucket, (old, new) in enumerate(zip(first, second)):
        if old != new and not decreases[old]:
            found.append((bucket, "leaves"))
        elif old != new and not increases[new]:
            found.append((bucket, "enters"))
    return found


class Needless(Case):
    """Promises 20 and 21."""

    def test_against_churn_and_transfer(self):
        for variants, buckets in SIZES:
            for first, second in product(all_assignments(variants, buckets), repeat=2):
                least = is_least(variants, first, second)
                self.same(is_minimal(variants, first, second), least)
                self.assertEqual(needless(variants, first, second) is None, least)

    def test_least_bucket_and_its_reason(self):
        for variants, buckets in SIZES:
            for first, second in product(all_assignments(variants, buckets), repeat=2):
                wanted = needless_moves(variants, first, second)
                self.same(needless(variants, first, second), wanted[0] if wanted else None)

    def test_reasons(self):
        self.same(needless(3, (0, 0, 1, 1), (0, 1, 1, 2)), (1, "enters"))
        self.same(needless(2, (0, 1), (1, 0)), (0, "leaves"))
        self.same(needless(3, (2, 0, 0, 1), (2, 1, 0, 2)), (1, "enters"))
        self.same(needless(3, (0, 0, 1), (0, 2, 2)), None)
        self.same(needless(5, (), ()), None)

    def test_more_variants_than_occur(self):
        self.same(needless(5, (0, 0), (0, 4)), None)
        self.same(is_minimal(5, (0, 1), (1, 0)), False)

    def test_every_assignment_has_at_least_the_transfer(self):
        for allocation, assignment in cases():
            least = lost(shares_of(assignment, len(allocation)), allocation)
            for other in assignments_of(allocation):
                self.assertGreaterEqual(moved(assignment, other), least)
                self.assertEqual(is_minimal(len(allocation), assignment, other), moved(assignment, other) == least)


class Excess(Case):
    """Promise 22."""

    def test_churn_less_the_transfer(self):
        for allocation, assignment in cases():
            variants = len(allocation)
            least = lost(shares_of(assignment, variants), allocation)
            excesses = [excess(allocation, assignment, other) for other in assignments_of(allocation)]
            self.same(excesses, [moved(assignment, other) - least for other in assignments_of(allocation)])
            self.assertEqual(min(excesses), 0)

    def test_none_for_another_allocation(self):
        for allocation in all_allocations(3, 3):
            for other in all_assignments(3, 3):
                if shares_of(other, 3) != allocation:
                    self.same(excess(allocation, (0, 1, 2), other), None)
        self.same(excess((2, 1), (0, 0, 1), (0, 1, 1)), None)

    def test_sizes(self):
        self.same(excess((0,), (), ()), 0)
        self.same(excess((1, 2, 1), (0, 0, 1, 1), (0, 1, 1, 2)), 1)
        self.same(excess((10, 10, 0, 0, 0), (0,) * 10 + (1,) * 10, (1,) * 10 + (0,) * 10), 20)


class FirstAndChoices(Case):
    """Promises 23 and 25."""

    def test_first_change(self):
        for allocation, assignment in cases():
            self.same(first_change(allocation, assignment), least_changes(allocation, assignment)[0])

    def test_choices(self):
        for allocation, assignment in cases():
            changes = least_changes(allocation, assignment)
            for bucket in range(len(assignment)):
                wanted = tuple(sorted({change[bucket] for change in changes}))
                self.same(choices(allocation, assignment, bucket), wanted)

    def test_great_sizes(self):
        self.same(first_change((0, 5, 5, 5, 5), (0,) * 20), (1,) * 5 + (2,) * 5 + (3,) * 5 + (4,) * 5)
        self.same(first_change((4, 4, 4, 4, 4), (4,) * 20), tuple(sorted((0, 1, 2, 3, 4) * 4)))
        self.same(choices((4, 4, 4, 4, 4), (4,) * 20, 19), (0, 1, 2, 3, 4))
        self.same(choices((0, 5, 5, 5, 5), (0,) * 20, 0), (1, 2, 3, 4))
        self.same(choices((20,), (0,) * 20, 19), (0,))


class Properties(Case):
    """Promises 27, 28 and 29."""

    def test_the_way_back(self):
        for allocation, assignment in cases():
            variants = len(allocation)
            given = shares_of(assignment, variants)
            for other in assignments_of(allocation):
                there = excess(allocation, assignment, other) == 0
                self.assertEqual(excess(given, other, assignment) == 0, there)

    def test_renamed_buckets_and_variants(self):
        for allocation, assignment in product(all_allocations(3, 3), all_assignments(3, 3)):
            change = first_change(allocation, assignment)
            for order in permutations(range(3)):
                of_five = order + (3, 4)
                moved_buckets = rearranged(assignment, order), rearranged(change, order)
                self.same(excess(allocation, *moved_buckets), 0)
                moved_variants = renamed(assignment, of_five), renamed(change, of_five)
                self.same(excess(renamed_shares(allocation, order), *moved_variants), 0)


class Example(Case):
    """Promise 31."""

    def test_example(self):
        self.same(least_changes((1, 2, 1), (0, 0, 1, 1)), [(0, 2, 1, 1), (2, 0, 1, 1)])
        self.same(first_change((1, 2, 1), (0, 0, 1, 1)), (0, 2, 1, 1))
        self.same(choices((1, 2, 1), (0, 0, 1, 1), 0), (0, 2))
        self.same(choices((1, 2, 1), (0, 0, 1, 1), 2), (1,))


class WrongArguments(Case):
    """Promises 2, 7 and 30."""

    def test_needless(self):
        wrong = NOTHING + ((0,) * 21, (2,), (0, 1, 2), (-1,), (True,), (0, None), ("0",), [0, 1, 1], ((0,),))
        for function in (needless, is_minimal):
            self.checks_arguments(
                function, (2, (0, 1, 1), (1, 1, 0)),
                ("variants", NO_VARIANTS), ("assignment", wrong), ("other", NOT_THREE))

    def test_first_change(self):
        self.checks_arguments(
            first_change, ((1, 2), (0, 0, 1)), ("allocation", NO_ALLOCATIONS), ("assignment", NOT_THREE))

    def test_excess(self):
        self.checks_arguments(
            excess, ((1, 2), (0, 0, 1), (0, 1, 1)),
            ("allocation", NO_ALLOCATIONS), ("assignment", NOT_THREE), ("other", NOT_THREE))

    def test_choices(self):
        self.checks_arguments(
            choices, ((1, 2), (0, 0, 1), 0),
            ("allocation", NO_ALLOCATIONS), ("assignment", NOT_THREE), ("bucket", NO_BUCKET_OF_THREE))
        self.refused("bucket", choices, (0,), (), 0)

    def test_bounds_are_let(self):
        most = (0, 1, 2, 3, 4) * 4
        self.same(needless(5, most, most), None)
        self.same(is_minimal(1, (), ()), True)
        self.same(first_change((4, 4, 4, 4, 4), most), most)
        self.same(first_change((0,), ()), ())
        self.same(choices((4, 4, 4, 4, 4), most, 19), (4,))
        self.same(excess((4, 4, 4, 4, 4), most, most), 0)
