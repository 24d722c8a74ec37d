from itertools import permutations, product

from leastmoved.allocations import renamed_shares, transfer
from leastmoved.assignments import (
    allocation_of, buckets_of, churn, flows, is_assignment, moves, rearranged, renamed)
from tests.base import NOTHING, Case
from tests.brute import all_assignments, moved, shares_of

# Wrong as a tuple of 0 to 20 integers from 0 to 4.
NO_ASSIGNMENTS = NOTHING + (
    (0,) * 21, (5,), (0, 5), (-1,), (0, -1), (True,), (0, False), (None,), ("0",), (0.0,), [0, 1], ((0,),), ([0],), "01")
# Wrong as a tuple of three integers from 0 to 4.
NOT_THREE = NOTHING + (
    (), (0, 1), (0, 1, 1, 0), (0, 1, 5), (0, -1, 0), (0, True, 1), (False, 1, 1), (0, 1, None), (0, 1, "1"), (0, 1, 1.0),
    [0, 1, 1], (0, 1, (1,)), "011")
# Wrong as a number of variants where variant 2 occurs.
TOO_FEW = (2, 1, 0, -1, 6, 100, None, True, False, "3", 3.0, (3,), [3])
NO_ORDER_OF_FIVE = NOTHING + (
    (), (0, 1, 2), (0, 1, 2, 3), (0, 1, 2, 3, 4, 5), (0, 1, 2, 3, 3), (1, 2, 3, 4, 5), (-1, 0, 1, 2, 3), (0, True, 2, 3, 4),
    (False, 1, 2, 3, 4), (0, 1, 2, 3, None), (0, 1, 2, 3, "4"), [0, 1, 2, 3, 4], "01234")


class IsAssignment(Case):
    """Promises 4, 5 and 17."""

    def test_right(self):
        for value, variants, buckets in (
                ((), 1, 0), ((), 5, 0), ((0,) * 20, 1, 20), ((4,) * 20, 5, 20), ((0, 0, 2, 1), 3, 4), ((0, 0), 5, 2)):
            self.same(is_assignment(value, variants, buckets), True)

    def test_other_sizes(self):
        self.same(is_assignment((6, 0), 7, 2), True)
        self.same(is_assignment((0,) * 30, 1, 30), True)
        self.same(is_assignment((), 0, 0), True)
        for value, variants, buckets in (
                ((0, 1), 2, 1), ((0, 1), 2, 3), ((0, 1), 1, 2), ((0, 1), 0, 2), ((0, 1), -1, 2), ((), 2, 1), ((), 2, -1),
                ((0,), 0, 1), ((7,), 7, 1), ((0, 1), 2, -2)):
            self.same(is_assignment(value, variants, buckets), False)

    def test_wrong_of_every_kind(self):
        for value in NOT_THREE:
            self.same(is_assignment(value, 5, 3), False)
        self.same(is_assignment((True,), 2, 1), False)
        self.same(is_assignment((False,), 2, 1), False)
        self.same(is_assignment((0, 0, 3), 3, 3), False)

    def test_exact(self):
        right = all_assignments(3, 3)
        for value in product(range(-1, 5), repeat=3):
            self.same(is_assignment(value, 3, 3), value in right)


class Counting(Case):
    """Promises 5, 14 and 15."""

    def test_allocation_of(self):
        self.same(allocation_of((0, 0, 2, 1), 3), (2, 1, 1))
        self.same(allocation_of((0, 0, 2, 1), 5), (2, 1, 1, 0, 0))
        self.same(allocation_of((), 1), (0,))
        self.same(allocation_of((), 5), (0, 0, 0, 0, 0))
        self.same(allocation_of((4,) * 20, 5), (0, 0, 0, 0, 20))
        for assignment in all_assignments(3, 4):
            self.same(allocation_of(assignment, 3), shares_of(assignment, 3))

    def test_churn_counts(self):
        everything = all_assignments(3, 3)
        for first, second in product(everything, repeat=2):
            got = churn(first, second)
            self.same(got, moved(first, second))
            self.assertGreaterEqual(got, transfer(shares_of(first, 3), shares_of(second, 3)))

    def test_churn_of_other_sizes(self):
        self.same(churn((), ()), 0)
        self.same(churn((0,) * 20, (4,) * 20), 20)
        self.same(churn((0, 0, 2, 1), (0, 2, 2, 0)), 2)

    def test_triangle(self):
        everything = all_assignments(2, 3)
        for first, second, third in product(everything, repeat=3):
            self.assertLessEqual(churn(first, third), churn(first, second) + churn(second, third))

    def test_moves(self):
        self.same(moves((0, 0, 2, 1), (0, 2, 2, 0)), [(1, 0, 2), (3, 1, 0)])
        self.same(moves((), ()), [])
        self.same(moves((1, 2), (1, 2)), [])
        for first, second in product(all_assignments(3, 3), repeat=2):
            wanted = [(b, first[b], second[b]) for b in range(3) if first[b] != second[b]]
            self.same(moves(first, second), wanted)

    def test_flows(self):
        self.same(flows((0, 0, 2, 1), (0, 2, 2, 0), 3), ((1, 0, 1), (1, 0, 0), (0, 0, 1)))
        self.same(flows((), (), 2), ((0, 0), (0, 0)))
        self.same(flows((0,) * 20, (0,) * 20, 1), ((20,),))
        self.same(flows((0, 1), (1, 1), 3), ((0, 1, 0), (0, 1, 0), (0, 0, 0)))

    def test_totals_of_flows(self):
        for first, second in product(all_assignments(3, 3), repeat=2):
            got = flows(first, second, 3)
            for old in range(3):
                self.assertEqual(sum(got[old]), first.count(old))
                self.assertEqual(sum(row[old] for row in got), second.count(old))
                for new in range(3):
                    wanted = sum(1 for b in range(3) if first[b] == old and second[b] == new)
                    self.same(got[old][new], wanted)
            off = sum(got[old][new] for old in range(3) for new in range(3) if old != new)
            self.assertEqual(off, churn(first, second))

    def test_buckets_of(self):
        self.same(buckets_of((0, 0, 2, 0), 0), [0, 1, 3])
        self.same(buckets_of((0, 0, 2, 0), 1), [])
        self.same(buckets_of((0, 0, 2, 0), 4), [])
        self.same(buckets_of((), 0), [])
        self.same(buckets_of((4,) * 20, 4), list(range(20)))


class Renaming(Case):
    """Promise 16."""

    def test_renamed(self):
        self.same(renamed((0, 0, 2, 1), (1, 0, 2, 3, 4)), (1, 1, 2, 0))
        self.same(renamed((0, 1, 2, 3, 4), (1, 2, 3, 4, 0)), (1, 2, 3, 4, 0))
        self.same(renamed((), (4, 3, 2, 1, 0)), ())

    def test_rearranged(self):
        self.same(rearranged((0, 0, 2, 1), (3, 2, 1, 0)), (1, 2, 0, 0))
        self.same(rearranged((0, 1, 2), (1, 2, 0)), (2, 0, 1))
        self.same(rearranged((), ()), ())
        for order in permutations(range(4)):
            got = rearranged((0, 1, 2, 3), order)
            self.assertEqual([got[order[b]] for b in range(4)], [0, 1, 2, 3])

    def test_both_alike_leave_churn_and_transfer(self):
        everything = all_assignments(3, 3)
        orders = list(permutations(range(3)))
        for first, second in product(everything, repeat=2):
            order = orders[(sum(first) + 2 * sum(second)) % len(orders)]
            of_five = order + (3, 4)
            one = rearranged(renamed(first, of_five), order)
            two = rearranged(renamed(second, of_five), order)
            self.assertEqual(churn(one, two), churn(first, second))
            wanted = transfer(allocation_of(first, 3), allocation_of(second, 3))
            self.assertEqual(transfer(allocation_of(one, 3), allocation_of(two, 3)), wanted)
            self.assertEqual(allocation_of(one, 3), renamed_shares(allocation_of(first, 3), order))

    def test_the_order_that_leads_back(self):
        for order in permutations(range(5)):
            back = tuple(order.index(v) for v in range(5))
            self.same(renamed(renamed((0, 1, 2, 3, 4, 0), order), back), (0, 1, 2, 3, 4, 0))
            self.same(rearranged(rearranged((0, 4, 4, 1, 2), order), back), (0, 4, 4, 1, 2))


class WrongArguments(Case):
    """Promises 2, 7 and 18."""

    def test_allocation_of(self):
        self.checks_arguments(
            allocation_of, ((0, 2, 1), 3), ("assignment", NO_ASSIGNMENTS), ("variants", TOO_FEW))
        self.refused("variants", allocation_of, (), 0)
        self.refused("variants", allocation_of, (4,), 4)
        self.refused("variants", allocation_of, (0, 3, 1), 3)

    def test_churn_and_moves(self):
        for function in (churn, moves):
            self.checks_arguments(
                function, ((0, 1, 1), (1, 1, 0)), ("first", NO_ASSIGNMENTS), ("second", NOT_THREE))
            self.refused("second", function, (), (0,))

    def test_flows(self):
        self.checks_arguments(
            flows, ((0, 2, 1), (1, 1, 0), 3),
            ("first", NO_ASSIGNMENTS), ("second", NOT_THREE), ("variants", TOO_FEW))
        self.refused("variants", flows, (0, 1, 1), (1, 2, 0), 2)
        self.refused("variants", flows, (0, 2, 1), (1, 1, 0), 2)
        self.refused("variants", flows, (), (), 0)

    def test_buckets_of(self):
        wrong = (5, -1, 100, None, True, False, "0", 0.0, (0,), [0])
        self.checks_arguments(buckets_of, ((0, 2, 1), 0), ("assignment", NO_ASSIGNMENTS), ("variant", wrong))

    def test_renamed(self):
        self.checks_arguments(
            renamed, ((0, 2, 1), (1, 0, 2, 3, 4)), ("assignment", NO_ASSIGNMENTS), ("order", NO_ORDER_OF_FIVE))

    def test_rearranged(self):
        wrong = NOTHING + (
            (), (0, 1), (0, 1, 2, 3), (0, 1, 1), (1, 2, 3), (-1, 0, 1), (0, True, 2), (0, 1, None), [0, 1, 2], "012",
            (0, 1, 2, 3, 4))
        self.checks_arguments(
            rearranged, ((0, 2, 1), (1, 0, 2)), ("assignment", NO_ASSIGNMENTS), ("order", wrong))

    def test_bounds_are_let(self):
        most = (4,) * 20
        self.same(allocation_of(most, 5), (0, 0, 0, 0, 20))
        self.same(moves(most, most), [])
        self.same(flows(most, most, 5)[4], (0, 0, 0, 0, 20))
        self.same(renamed(most, (4, 3, 2, 1, 0)), (0,) * 20)
        self.same(rearranged(most, tuple(range(20))), most)
        self.same(allocation_of((0,), 1), (1,))
        self.same(flows((0,), (0,), 1), ((1,),))

    def test_returned_lists_are_new(self):
        self.fresh_list(moves, (0, 0, 2, 1), (0, 2, 2, 0))
        self.fresh_list(buckets_of, (0, 0, 2, 1), 0)

    def test_wrong_lists_are_not_modified(self):
        wrong = [0, 1]
        self.refused("first", churn, wrong, wrong)
        self.same(wrong, [0, 1])
