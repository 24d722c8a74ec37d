from itertools import product
from math import factorial, prod

from leastmoved.changes import first_change
from leastmoved.counting import count_changes, index_of, next_change, nth_change
from tests.base import NOTHING, Case
from tests.brute import all_allocations, all_assignments, assignments_of, least_changes, lost, shares_of
from tests.test_changes import NO_ALLOCATIONS, NO_BUCKET_OF_THREE, NOT_THREE, cases

GREAT = (
    ((4, 4, 4, 4, 4), (0,) * 20),
    ((0, 5, 5, 5, 5), (0,) * 20),
    ((2, 3, 4, 5, 6), (0,) * 6 + (1,) * 5 + (2,) * 4 + (3,) * 3 + (4,) * 2),
    ((1, 9, 1, 8, 1), (0, 1, 2, 3, 4) * 4),
    ((3, 3, 7, 7, 0), (4, 0, 1, 4, 4, 2, 2, 4, 0, 0, 1, 4, 4, 3, 3, 0, 0, 1, 4, 4)))


class Numbers(Case):
    """Promises 23 and 24."""

    def test_count_against_all_assignments(self):
        for allocation, assignment in cases():
            self.same(count_changes(allocation, assignment), len(least_changes(allocation, assignment)))

    def test_the_formula_with_the_factorials(self):
        for allocation, assignment in list(cases()) + list(GREAT):
            given = shares_of(assignment, len(allocation))
            left = count_changes(allocation, assignment)
            for old, new in zip(given, allocation):
                left *= factorial(min(old, new)) * factorial(max(old - new, 0)) * factorial(max(new - old, 0))
            self.assertEqual(left, factorial(lost(given, allocation)) * prod(map(factorial, given)))

    def test_great_numbers(self):
        self.same(count_changes((4, 4, 4, 4, 4), (0,) * 20), factorial(20) // factorial(4) ** 5)
        self.same(count_changes((0, 20), (0,) * 20), 1)
        self.same(count_changes((10, 10), (0,) * 20), 184756)
        self.same(count_changes((0,), ()), 1)

    def test_order_of_the_least_changes(self):
        for allocation, assignment in cases():
            wanted = least_changes(allocation, assignment)
            got = [nth_change(allocation, assignment, index) for index in range(len(wanted))]
            self.same(got, wanted)
            self.assertEqual(got, sorted(got))

    def test_index_of(self):
        for allocation, assignment in cases():
            wanted = least_changes(allocation, assignment)
            for other in assignments_of(allocation):
                index = wanted.index(other) if other in wanted else None
                self.same(index_of(allocation, assignment, other), index)

    def test_no_index_for_another_allocation(self):
        for allocation, other in product(all_allocations(3, 3), all_assignments(3, 3)):
            if shares_of(other, 3) != allocation:
                self.same(index_of(allocation, (0, 1, 2), other), None)

    def test_they_lead_back_to_each_other(self):
        for allocation, assignment in GREAT:
            number = count_changes(allocation, assignment)
            for index in {0, 1, number // 7, number // 2, number * 5 // 6, number - 2, number - 1}:
                change = nth_change(allocation, assignment, index)
                self.same(shares_of(change, 5), allocation)
                self.same(index_of(allocation, assignment, change), index)
            self.same(nth_change(allocation, assignment, 0), first_change(allocation, assignment))

    def test_greater_index_comes_later(self):
        for allocation, assignment in GREAT:
            number = count_changes(allocation, assignment)
            places = sorted({number * k // 50 for k in range(50)})
            changes = [nth_change(allocation, assignment, index) for index in places]
            self.assertEqual(changes, sorted(set(changes)))


class Next(Case):
    """Promise 26."""

    def test_against_all_least_changes(self):
        for allocation, assignment in cases():
            changes = least_changes(allocation, assignment)
            for place, other in enumerate(changes):
                for bucket in range(len(assignment)):
                    later = [each for each in changes[place + 1:] if each[:bucket + 1] != other[:bucket + 1]]
                    wanted = later[0] if later else None
                    self.same(next_change(allocation, assignment, other, bucket), wanted)

    def test_great_sizes(self):
        for allocation, assignment in GREAT:
            number = count_changes(allocation, assignment)
            for index in (0, number // 3, number - 2):
                other = nth_change(allocation, assignment, index)
                wanted = nth_change(allocation, assignment, index + 1)
                self.same(next_change(allocation, assignment, other, 19), wanted)
            last = nth_change(allocation, assignment, number - 1)
            for bucket in range(20):
                self.same(next_change(allocation, assignment, last, bucket), None)

    def test_up_to_a_bucket(self):
        allocation, assignment = (4, 4, 4, 4, 4), (0,) * 20
        first = first_change(allocation, assignment)
        self.same(next_change(allocation, assignment, first, 0), (1,) + (0,) * 4 + (1,) * 3 + first[8:])
        self.same(next_change((1, 2, 1), (0, 0, 1, 1), (0, 2, 1, 1), 0), (2, 0, 1, 1))
        self.same(next_change((1, 2, 1), (0, 0, 1, 1), (2, 0, 1, 1), 3), None)


class OnlyOne(Case):
    """Promise 28."""

    def test_when_there_is_only_one(self):
        for allocation, assignment in cases():
            given = shares_of(assignment, len(allocation))
            pairs = list(zip(given, allocation))
            none_decreases = all(new >= old for old, new in pairs)
            all_lose_everything = all(new == 0 for old, new in pairs if new < old)
            one_increases = sum(new > old for old, new in pairs) <= 1
            wanted = none_decreases or (all_lose_everything and one_increases)
            self.assertEqual(count_changes(allocation, assignment) == 1, wanted)


class Example(Case):
    """Promise 31."""

    def test_example(self):
        self.same(count_changes((1, 2, 1), (0, 0, 1, 1)), 2)
        self.same(nth_change((1, 2, 1), (0, 0, 1, 1), 0), (0, 2, 1, 1))
        self.same(nth_change((1, 2, 1), (0, 0, 1, 1), 1), (2, 0, 1, 1))


class WrongArguments(Case):
    """Promises 2, 7 and 30."""

    def test_count_changes(self):
        self.checks_arguments(
            count_changes, ((1, 2), (0, 0, 1)), ("allocation", NO_ALLOCATIONS), ("assignment", NOT_THREE))

    def test_nth_change(self):
        # There are two least changes.
        wrong = (2, -1, 3, 10 ** 30, None, True, False, "0", 0.0, (0,), [0])
        self.checks_arguments(
            nth_change, ((1, 2), (0, 0, 1), 1),
            ("allocation", NO_ALLOCATIONS), ("assignment", NOT_THREE), ("index", wrong))
        for allocation, assignment in GREAT:
            self.refused("index", nth_change, allocation, assignment, count_changes(allocation, assignment))
            self.refused("index", nth_change, allocation, assignment, -1)

    def test_index_of(self):
        self.checks_arguments(
            index_of, ((1, 2), (0, 0, 1), (0, 1, 1)),
            ("allocation", NO_ALLOCATIONS), ("assignment", NOT_THREE), ("other", NOT_THREE))

    def test_next_change(self):
        # (1, 1, 0) is of the allocation, but moves more than it must; (0, 0, 1) is of another one.
        wrong = NOT_THREE + ((1, 1, 0), (0, 0, 1), (1, 1, 1))
        self.checks_arguments(
            next_change, ((1, 2), (0, 0, 1), (0, 1, 1), 0),
            ("allocation", NO_ALLOCATIONS), ("assignment", NOT_THREE), ("other", wrong),
            ("bucket", NO_BUCKET_OF_THREE))
        self.refused("bucket", next_change, (0,), (), (), 0)

    def test_other_is_wrong_only_as_a_least_change(self):
        self.same(index_of((1, 2), (0, 0, 1), (1, 1, 0)), None)
        self.refused("other", next_change, (1, 2), (0, 0, 1), (1, 1, 0), NOTHING[0])

    def test_bounds_are_let(self):
        most = (0, 1, 2, 3, 4) * 4
        self.same(count_changes((4, 4, 4, 4, 4), most), 1)
        self.same(nth_change((4, 4, 4, 4, 4), most, 0), most)
        self.same(index_of((4, 4, 4, 4, 4), most, most), 0)
        self.same(next_change((4, 4, 4, 4, 4), most, most, 19), None)
        self.same(nth_change((0,), (), 0), ())
        self.same(index_of((0,), (), ()), 0)
