from itertools import permutations, product

from leastmoved.priorities import first_lists, gives, served, unlike_pair
from tests.base import NOTHING, Case
from tests.brute import all_allocations, all_assignments, is_least, is_minimal_table

TABLE = ((0, 0, 1, 1), (0, 2, 1, 1))
# Six allocations of twenty buckets, each got from the first one by moving the last buckets of variant 0.
SIX = tuple((0,) * (20 - 2 * k) + (4,) * (2 * k) for k in range(6))
NO_VARIANTS = (0, 6, -1, None, True, False, "3", (3,), [3])
# Wrong as a table to three variants.
NO_TABLES = NOTHING + (
    (), ((0, 0),) * 7, ((0, 3),), ((0, 1), (0, 3)), ((0, 1), (0,)), ((0, 1), (0, 1, 1)), ((0,), ()), ((0,) * 21,), ((-1,),),
    ((True,),), ((0, 1), (0, True)), (None,), ((0, 1), None), ("01",), ([0, 1],), ((0, 1), [0, 1]), [(0, 1)], (0, 1),
    ((0, 1), (0, None)), ((0, 1), ((0, 1),)), (None, (0, 1)), ([0, 1], (0, 1)), (5, (0, 1)))
NO_LISTS_AT_ALL = NOTHING + (
    (), ((0, 1), (3, 2)), ((0, 1), (3, 2), (1,), ()), ((0, 0), (3, 2), (1,)), ((0, 1), (3, 2), (1, 1)),
    ((0, 1), (3, 2), None), ((0, 1), (3, 2), [1]), [(0, 1), (3, 2), (1,)], ((0, 1), (3, 2), 1), ((0, 1), (3, 2), (-1,)),
    ((0, 1), (3, 2), (True,)), ((False, 1), (3, 2), (1,)), ((0, 1), (3, 2), (None,)), ((0, 1), (3, 2), ("1",)),
    ((0, 1), (3, 2), (1, (2,))), ("01", (3, 2), (1,)), ((0, 1), (3, 2), ((1,),)), ((0, 1), (3, 2), (1, [2])),
    (range(2), (3, 2), (1,)), ((0, 1), (3, 2), (1.0,)))


def gives_by_words(table, lists):
    """The first buckets of each list are exactly the buckets that the variant has."""
    for assignment in table:
        for variant, row in enumerate(lists):
            mine = {bucket for bucket, own in enumerate(assignment) if own == variant}
            if len(row) < len(mine) or set(row[:len(mine)]) != mine:
                return False
    return True


def first_list_by_words(table, variant, buckets):
    """The first full list whose beginnings are the variant's buckets, or None."""
    for row in permutations(range(buckets)):
        lists = [{bucket for bucket, own in enumerate(assignment) if own == variant} for assignment in table]
        if all(set(row[:len(mine)]) == mine for mine in lists):
            return row
    return None


def tables(variants, buckets, many):
    return list(product(all_assignments(variants, buckets), repeat=many))


def minimal_tables(variants, buckets, many):
    return [table for table in tables(variants, buckets, many) if is_minimal_table(variants, table)]


def partial_lists(buckets):
    """All tuples of different buckets."""
    return [row for many in range(buckets + 1) for row in permutations(range(buckets), many)]


class UnlikePair(Case):
    """Promise 32."""

    def test_first_of_all_pairs(self):
        for variants, buckets, many in ((2, 3, 1), (2, 3, 2), (3, 2, 3), (2, 3, 3), (3, 3, 2), (2, 2, 4)):
            for table in tables(variants, buckets, many):
                pairs = [(i, j) for i in range(many) for j in range(i + 1, many)]
                wrong = [(i, j) for i, j in pairs if not is_least(variants, table[i], table[j])]
                self.same(unlike_pair(variants, table), wrong[0] if wrong else None)

    def test_not_only_neighbours(self):
        self.same(unlike_pair(2, ((0, 0, 1), (0, 0, 0), (1, 0, 0))), (0, 2))
        self.same(unlike_pair(3, ((0, 1), (0, 2), (2, 1), (0, 2))), (1, 2))
        self.same(unlike_pair(2, ((0, 1), (0, 0), (0, 1), (0, 0), (0, 0), (1, 0))), (0, 5))

    def test_one_equal_ones_and_six(self):
        self.same(unlike_pair(3, ((2, 1, 0),)), None)
        self.same(unlike_pair(3, ((2, 1, 0),) * 6), None)
        self.same(unlike_pair(5, SIX), None)
        self.same(unlike_pair(1, ((),)), None)
        self.same(unlike_pair(5, SIX[:5] + ((4,) * 10 + (0,) * 10,)), (1, 5))


class FirstLists(Case):
    """Promises 34 and 35."""

    def test_against_all_full_lists(self):
        for variants, buckets, many in ((2, 3, 1), (2, 3, 2), (3, 3, 2), (3, 2, 3), (2, 3, 3), (2, 4, 2), (1, 2, 2)):
            for table in tables(variants, buckets, many):
                rows = tuple(first_list_by_words(table, variant, buckets) for variant in range(variants))
                # There are lists if and only if the table is minimal.
                self.assertEqual(None not in rows, is_minimal_table(variants, table))
                self.same(first_lists(variants, table), None if None in rows else rows)

    def test_they_are_full_and_give_the_table(self):
        for table in minimal_tables(3, 3, 2):
            lists = first_lists(3, table)
            for row in lists:
                self.assertEqual(sorted(row), [0, 1, 2])
            self.same(gives(3, table, lists), True)

    def test_ascending_behind_each_share(self):
        table = ((1, 1, 0, 1, 0, 1), (1, 0, 0, 1, 0, 0), (1, 0, 0, 0, 0, 0))
        self.same(first_lists(2, table), ((2, 4, 1, 5, 3, 0), (0, 3, 1, 5, 2, 4)))
        self.same(first_lists(2, table[::-1]), ((2, 4, 1, 5, 3, 0), (0, 3, 1, 5, 2, 4)))

    def test_sizes(self):
        self.same(first_lists(2, ((),)), ((), ()))
        self.same(first_lists(3, ((2, 1, 0),) * 6), ((2, 0, 1), (1, 0, 2), (0, 1, 2)))
        lists = first_lists(5, SIX)
        self.same(lists[0], tuple(range(20)))
        self.same(lists[4], (18, 19, 16, 17, 14, 15, 12, 13, 10, 11) + tuple(range(10)))
        self.same(first_lists(2, ((0, 1), (1, 0))), None)
        self.same(first_lists(2, ((0, 0, 1), (0, 0, 0), (1, 0, 0))), None)


class Gives(Case):
    """Promise 33."""

    def test_against_the_words(self):
        for table in tables(2, 3, 1)[::3] + tables(2, 3, 2)[::5]:
            for lists in product(partial_lists(3), repeat=2):
                self.same(gives(2, table, lists), gives_by_words(table, lists))

    def test_cut_lists(self):
        self.same(gives(3, TABLE, ((0, 1), (3, 2), (1,))), True)
        self.same(gives(3, TABLE, ((0, 1, 2, 3), (3, 2), (1,))), True)
        self.same(gives(3, TABLE, ((0,), (3, 2), (1,))), False)
        self.same(gives(3, TABLE, ((0, 1), (3,), (1,))), False)
        self.same(gives(3, TABLE, ((0, 1), (3, 2), ())), False)

    def test_exchanged_buckets_and_lists(self):
        self.same(gives(3, TABLE, ((0, 1), (2, 3), (1,))), True)
        self.same(gives(3, TABLE, ((1, 0), (3, 2), (1,))), False)
        self.same(gives(3, TABLE, ((3, 2), (0, 1), (1,))), False)
        self.same(gives(3, TABLE, ((0, 1), (3, 2), (2, 1))), False)

    def test_what_is_no_list_of_the_table(self):
        for lists in NO_LISTS_AT_ALL:
            self.same(gives(3, TABLE, lists), False)
        self.same(gives(3, TABLE, ((0, 1, 2, 2), (3, 2), (1,))), False)
        self.same(gives(3, TABLE, ((0, 1, 4), (3, 2), (1,))), False)
        self.same(gives(3, TABLE, ((0, 1), (3, 2), (1, -1))), False)
        self.same(gives(3, TABLE, ((0, 1, None), (3, 2), (1,))), False)

    def test_sizes(self):
        self.same(gives(2, ((),), ((), ())), True)
        self.same(gives(2, ((),), ((0,), ())), False)
        self.same(gives(1, ((),), ()), False)
        self.same(gives(5, SIX, first_lists(5, SIX)), True)
        self.same(gives(2, ((0, 1), (1, 0)), ((0, 1), (1, 0))), False)


class Served(Case):
    """Promise 36."""

    def test_served(self):
        lists = ((0, 1, 2, 3), (2, 3, 0, 1), (1, 0, 2, 3))
        self.same(served(3, lists, (0, 2, 2)), (2, 2, 1, 1))
        self.same(served(3, lists, (1, 2, 1)), (0, 2, 1, 1))
        self.same(served(3, lists, (0, 0, 0)), ())
        self.same(served(3, lists, (4, 0, 0)), (0, 0, 0, 0))

    def test_a_bucket_for_two_variants(self):
        lists = ((0, 1, 2, 3), (2, 3, 0, 1), (1, 0, 2, 3))
        self.same(served(3, lists, (1, 1, 2)), None)
        self.same(served(3, lists, (3, 1, 0)), None)
        self.same(served(2, ((0,), (0,)), (1, 1)), None)

    def test_lists_that_are_too_short(self):
        self.same(served(2, ((0,), (1,)), (1, 1)), (0, 1))
        self.same(served(2, ((0,), (1,)), (2, 0)), None)
        self.same(served(2, ((), ()), (0, 1)), None)
        self.same(served(2, ((0, 1), ()), (2, 0)), (0, 0))

    def test_buckets_without_a_variant(self):
        self.same(served(2, ((0,), (2,)), (1, 1)), None)
        self.same(served(2, ((19,), ()), (1, 0)), None)
        self.same(served(2, ((0, 19), (1, 18)), (1, 1)), (0, 1))

    def test_against_the_words(self):
        for lists in product(partial_lists(3), repeat=2):
            for buckets in range(4):
                for allocation in all_allocations(2, buckets):
                    heads = [set(row[:share]) for row, share in zip(lists, allocation)]
                    wanted = None
                    long_enough = all(len(head) == share for head, share in zip(heads, allocation))
                    if long_enough and not heads[0] & heads[1] and heads[0] | heads[1] == set(range(buckets)):
                        wanted = tuple(0 if bucket in heads[0] else 1 for bucket in range(buckets))
                    self.same(served(2, lists, allocation), wanted)

    def test_lists_serve_what_they_give(self):
        for table in minimal_tables(3, 3, 2):
            lists = first_lists(3, table)
            for assignment in table:
                shares = tuple(assignment.count(variant) for variant in range(3))
                self.same(served(3, lists, shares), assignment)


class Example(Case):
    """Promise 43."""

    def test_bucket_0_is_the_first_of_variant_0(self):
        self.same(unlike_pair(3, TABLE), None)
        self.same(first_lists(3, TABLE)[0][0], 0)


class WrongArguments(Case):
    """Promises 2, 7 and 42."""

    def test_table(self):
        for function in (unlike_pair, first_lists):
            self.checks_arguments(function, (3, TABLE), ("variants", NO_VARIANTS), ("table", NO_TABLES))

    def test_gives(self):
        self.checks_arguments(
            lambda variants, table: gives(variants, table, ()), (3, TABLE),
            ("variants", NO_VARIANTS), ("table", NO_TABLES))
        self.refused("variants", gives, 0, None, None)
        self.refused("table", gives, 3, None, None)

    def test_served(self):
        lists = NO_LISTS_AT_ALL + (((0, 1), (3, 2), (20,)), ((0, 1), (3, 2), (1, 19, 1)))
        allocations = NOTHING + (
            (), (1, 1), (1, 1, 1, 1), (21, 0, 0), (10, 10, 1), (-1, 1, 1), (True, 1, 1), (1, 1, None), [1, 1, 1], "111")
        self.checks_arguments(
            served, (3, ((0, 1), (3, 2), (1,)), (1, 2, 1)),
            ("variants", NO_VARIANTS), ("lists", lists), ("allocation", allocations))

    def test_bounds_are_let(self):
        full = tuple(range(20))
        self.same(served(5, (full,) * 5, (0, 0, 0, 0, 20)), (4,) * 20)
        self.same(served(1, (full[::-1],), (20,)), (0,) * 20)
        self.same(served(1, ((),), (0,)), ())
        self.same(unlike_pair(5, ((4,) * 20,) * 6), None)

    def test_wrong_lists_are_not_modified(self):
        wrong = [(0, 1), (3, 2), (1,)]
        self.same(gives(3, TABLE, wrong), False)
        self.refused("lists", served, 3, wrong, (1, 2, 1))
        self.same(wrong, [(0, 1), (3, 2), (1,)])
