from itertools import product

from leastmoved.changes import first_change
from leastmoved.extending import allowed, extension, is_obstruction, obstruction
from tests.base import NOTHING, Case
from tests.brute import all_allocations, all_assignments, assignments_of, is_minimal_table, shares_of, subsets
from tests.test_priorities import NO_TABLES, NO_VARIANTS, SIX, TABLE, minimal_tables

# A table and an allocation for which variant 0 is too small.
STUCK = ((0, 0, 1, 1), (0, 0, 2, 2))


def allowed_by_words(variants, table, allocation):
    """The allowed variants of each bucket, as promise 37 tells them."""
    found = []
    for bucket in range(len(table[0])):
        mine = []
        for v in range(variants):
            others = [row for row in table if row[bucket] != v]
            if all(row.count(v) < allocation[v] and row.count(row[bucket]) > allocation[row[bucket]] for row in others):
                mine.append(v)
        found.append(tuple(mine))
    return found


def first_obstruction_by_words(variants, table, allocation):
    """The first set that is too small with its buckets, as promises 39 and 40 tell them, or None."""
    can_have = allowed_by_words(variants, table, allocation)
    for chosen in subsets(variants):
        buckets = tuple(b for b, mine in enumerate(can_have) if set(mine) <= set(chosen))
        if len(buckets) > sum(allocation[v] for v in chosen):
            return (chosen, buckets)
    return None


def cases():
    """Minimal tables of small sizes, each with each allocation."""
    for variants, buckets, many in ((1, 2, 1), (2, 3, 1), (2, 3, 2), (3, 3, 1), (3, 3, 2), (4, 2, 2), (2, 3, 3), (3, 2, 3)):
        for table in minimal_tables(variants, buckets, many):
            for allocation in all_allocations(variants, buckets):
                yield variants, table, allocation
    for table in minimal_tables(3, 4, 2)[::17]:
        for allocation in all_allocations(3, 4):
            yield 3, table, allocation


class Allowed(Case):
    """Promises 37 and 38."""

    def test_allowed(self):
        for variants, table, allocation in cases():
            got = [allowed(variants, table, allocation, bucket) for bucket in range(len(table[0]))]
            self.same(got, allowed_by_words(variants, table, allocation))

    def test_exactly_the_allowed_ones_extend(self):
        for variants, table, allocation in cases():
            can_have = allowed_by_words(variants, table, allocation)
            for assignment in assignments_of(allocation):
                extends = is_minimal_table(variants, table + (assignment,))
                self.assertEqual(extends, all(v in mine for v, mine in zip(assignment, can_have)))

    def test_example(self):
        self.same(allowed(3, TABLE, (1, 1, 2), 2), (1, 2))
        self.same(allowed(3, TABLE, (1, 1, 2), 0), (0,))


class Extension(Case):
    """Promises 37, 38 and 41."""

    def test_first_of_all_assignments_that_extend(self):
        for variants, table, allocation in cases():
            right = [each for each in assignments_of(allocation) if is_minimal_table(variants, table + (each,))]
            self.same(extension(variants, table, allocation), right[0] if right else None)

    def test_a_table_of_one_assignment(self):
        for assignment, allocation in product(all_assignments(3, 3), all_allocations(3, 3)):
            self.same(extension(3, (assignment,), allocation), first_change(allocation, assignment))
            self.same(obstruction(3, (assignment,), allocation), None)

    def test_an_allocation_of_the_table(self):
        for table in minimal_tables(3, 3, 2):
            for assignment in table:
                allocation = shares_of(assignment, 3)
                self.same(extension(3, table, allocation), assignment)
                for bucket, variant in enumerate(assignment):
                    self.same(allowed(3, table, allocation, bucket), (variant,))

    def test_not_only_the_allocations_count(self):
        one, other = ((0, 1), (2, 3)), ((0, 1), (3, 2))
        self.same([shares_of(row, 4) for row in one], [shares_of(row, 4) for row in other])
        self.same(extension(4, one, (1, 0, 0, 1)), (0, 3))
        self.same(extension(4, other, (1, 0, 0, 1)), None)

    def test_great_sizes(self):
        self.same(extension(5, SIX, (5, 3, 3, 3, 6)), (0,) * 5 + (1,) * 3 + (2,) * 3 + (3,) * 3 + (4,) * 6)
        self.same(extension(5, SIX, (0, 0, 20, 0, 0)), (2,) * 20)
        self.same(extension(5, ((0,) * 20,), (4, 4, 4, 4, 4)), tuple(sorted((0, 1, 2, 3, 4) * 4)))


class Obstruction(Case):
    """Promises 39 and 40."""

    def test_first_obstruction(self):
        for variants, table, allocation in cases():
            wanted = first_obstruction_by_words(variants, table, allocation)
            self.same(obstruction(variants, table, allocation), wanted)

    def test_either_an_extension_or_an_obstruction(self):
        for variants, table, allocation in cases():
            found = obstruction(variants, table, allocation)
            self.assertEqual(found is None, extension(variants, table, allocation) is not None)
            if found is not None:
                self.same(is_obstruction(variants, table, allocation, found), True)

    def test_is_obstruction_against_the_words(self):
        values = list(product(subsets(3), subsets(3)))
        for table in minimal_tables(3, 3, 2)[::5]:
            for allocation in all_allocations(3, 3):
                can_have = allowed_by_words(3, table, allocation)
                for chosen, buckets in values:
                    inside = all(set(can_have[b]) <= set(chosen) for b in buckets)
                    wanted = inside and len(buckets) > sum(allocation[v] for v in chosen)
                    self.same(is_obstruction(3, table, allocation, (chosen, buckets)), wanted)

    def test_right_ones(self):
        self.same(obstruction(3, STUCK, (1, 2, 1)), ((0,), (0, 1)))
        self.same(is_obstruction(3, STUCK, (1, 2, 1), ((0,), (0, 1))), True)
        self.same(is_obstruction(3, STUCK, (1, 2, 1), ((), (2,))), False)

    def test_the_empty_set(self):
        # From each of the two assignments on, bucket 0 would have to keep its variant.
        table = ((0, 1), (2, 1))
        self.same(allowed(3, table, (1, 0, 1), 0), ())
        self.same(obstruction(3, table, (1, 0, 1)), ((), (0,)))
        self.same(is_obstruction(3, table, (1, 0, 1), ((), (0,))), True)
        self.same(is_obstruction(3, table, (1, 0, 1), ((), ())), False)
        self.same(is_obstruction(3, table, (1, 0, 1), ((), (1,))), False)

    def test_wrong_values_of_every_kind(self):
        for value in NOTHING + (
                (), ((0,),), ((0,), (0, 1), ()), [(0,), (0, 1)], ([0], (0, 1)), ((0,), [0, 1]), (0, (0, 1)), ((0,), 0),
                ((0,), (1, 0)), ((0,), (0, 0)), ((0, 0), (0, 1)), ((0,), (0, 0, 1)), ((3,), (0, 1)), ((-1,), (0, 1)),
                ((0,), (0, 4)), ((0,), (-1, 0)), ((0,), (0,)), ((0,), ()), ((), ()), ((), (0,)), ((1,), (0, 1)),
                ((1, 0), (0, 1)), ((False,), (0, 1)), ((0,), (0, True)), ((0,), (False, 1)), ((None,), (0, 1)),
                ((0,), (0, None)), ((0,), (0, "1")), (("0",), (0, 1)), (((0,),), (0, 1)), ((0,), ((0, 1),)), ("0", "01"),
                ((0,), (0, 1, 2)), ((0,), (0, 2)), ((0, 1), (0, 1)), ((0, 1, 2), (0, 1, 2, 3)), (None, None),
                ((0,), (0, 1.0)), ((0,), ([0], 1))):
            self.same(is_obstruction(3, STUCK, (1, 2, 1), value), False)

    def test_some_of_the_buckets_are_enough(self):
        table = ((0, 0, 0, 1, 1, 1), (0, 0, 0, 2, 2, 2))
        self.same(obstruction(3, table, (1, 3, 2)), ((0,), (0, 1, 2)))
        for value in (((0,), (0, 1)), ((0,), (0, 2)), ((0,), (1, 2)), ((0,), (0, 1, 2))):
            self.same(is_obstruction(3, table, (1, 3, 2), value), True)

    def test_no_variant_and_no_bucket_is_below_0(self):
        # Counted from the end, these would be a variant without buckets and a bucket of variant 0.
        table = ((1, 1, 1, 0, 0, 0), (2, 2, 2, 0, 0, 0))
        self.same(obstruction(4, table, (1, 3, 2, 0)), ((0,), (3, 4, 5)))
        self.same(is_obstruction(4, table, (1, 3, 2, 0), ((0, 3), (3, 4, 5))), True)
        self.same(is_obstruction(4, table, (1, 3, 2, 0), ((-1, 0), (3, 4, 5))), False)
        self.same(is_obstruction(4, table, (1, 3, 2, 0), ((0,), (-1, 3))), False)


class WrongArguments(Case):
    """Promises 2, 7 and 42."""

    # Tables of which some pair is not least are wrong here.
    NOT_MINIMAL = (((0, 0, 1, 1), (1, 0, 0, 1)), ((0, 0, 1), (0, 0, 0), (1, 0, 0)))
    NOT_FOUR = NOTHING + (
        (), (4,), (2, 2), (1, 1, 1), (2, 2, 1), (1, 1, 1, 1), (5, -1, 0), (2, True, 1), (2, 2, None), (2, 2, False),
        [2, 2, 0], "220")

    def test_allowed(self):
        wrong = (4, -1, 100, None, True, False, "0", (0,), [0])
        self.checks_arguments(
            allowed, (3, TABLE, (1, 1, 2), 0),
            ("variants", NO_VARIANTS), ("table", NO_TABLES + self.NOT_MINIMAL), ("allocation", self.NOT_FOUR),
            ("bucket", wrong))
        self.refused("bucket", allowed, 1, ((),), (0,), 0)

    def test_extension_and_obstruction(self):
        for function in (extension, obstruction):
            self.checks_arguments(
                function, (3, TABLE, (1, 1, 2)),
                ("variants", NO_VARIANTS), ("table", NO_TABLES + self.NOT_MINIMAL), ("allocation", self.NOT_FOUR))

    def test_is_obstruction(self):
        self.checks_arguments(
            lambda variants, table, allocation: is_obstruction(variants, table, allocation, None), (3, TABLE, (1, 1, 2)),
            ("variants", NO_VARIANTS), ("table", NO_TABLES + self.NOT_MINIMAL), ("allocation", self.NOT_FOUR))

    def test_bounds_are_let(self):
        most = ((0, 1, 2, 3, 4) * 4,) * 6
        self.same(extension(5, most, (4, 4, 4, 4, 4)), most[0])
        self.same(obstruction(5, SIX, (20, 0, 0, 0, 0)), None)
        self.same(allowed(5, SIX, (20, 0, 0, 0, 0), 19), (0,))
        self.same(extension(1, ((),), (0,)), ())
        self.same(obstruction(1, ((),), (0,)), None)
        self.same(is_obstruction(1, ((),), (0,), ((), ())), False)
