import random
from itertools import permutations, product

from leastmoved.triples import (
    accepts_return, accepts_three, all_different, bridge, excess, lies_between, return_cost, returned, table_of_three)
from tests.base import NOTHING, Case
from tests.brute import all_allocations, assignments_of, lost, middles, moved, tables_of

SIZES = ((1, 0), (1, 2), (2, 2), (2, 3), (3, 1), (3, 2), (3, 3), (4, 2))
HARD = ((1, 1, 0), (1, 0, 1), (0, 1, 1))
EASY = ((3, 1), (1, 3), (2, 2))


def triples():
    """All triples of allocations of small sizes."""
    for variants, buckets in SIZES:
        yield from product(all_allocations(variants, buckets), repeat=3)


def some_triples():
    """Some triples of greater sizes."""
    yield from list(product(all_allocations(3, 4), repeat=3))[::41]
    yield from list(product(all_allocations(4, 3), repeat=3))[::97]
    yield from list(product(all_allocations(5, 3), repeat=3))[::881]


def great_triples():
    """Triples of up to twenty buckets and five variants, the same ones each time."""
    chance = random.Random(5)
    for buckets in (7, 13, 19, 20) * 60:
        variants = chance.choice((2, 3, 4, 5))
        rows = []
        for _ in range(3):
            owners = [chance.choice(range(variants)) for _ in range(buckets)]
            rows.append(tuple(owners.count(v) for v in range(variants)))
        yield tuple(rows)


def least(before, after, old, new):
    return moved(old, new) == lost(before, after)


def is_minimal_for_three(three, table):
    return all(least(three[i], three[j], table[i], table[j]) for i, j in ((0, 1), (0, 2), (1, 2)))


def is_return(three, chain):
    return least(three[0], three[1], chain[0], chain[1]) and least(three[1], three[2], chain[1], chain[2])


def over(three):
    """The total of the medians less the number of buckets."""
    return sum(middles(three)) - sum(three[0])


class Excess(Case):
    """Promises 44, 50 and 51."""

    def test_against_the_words(self):
        for three in triples():
            self.same(excess(*three), max(0, over(three)))

    def test_the_order_is_the_same(self):
        for three in list(triples())[::3]:
            for order in permutations(three):
                self.same(excess(*order), excess(*three))

    def test_renumbered_variants(self):
        for three in list(triples())[::7]:
            for order in permutations(range(len(three[0]))):
                other = [tuple(shares[v] for v in order) for shares in three]
                self.same(excess(*other), excess(*three))
                self.same(return_cost(*other), return_cost(*three))
                self.assertEqual(table_of_three(*other) is None, table_of_three(*three) is None)
                self.assertEqual(bridge(*other) is None, bridge(*three) is None)

    def test_a_bucket_that_stays(self):
        for three in list(triples())[::5]:
            for variant in range(len(three[0])):
                more = [tuple(s + (v == variant) for v, s in enumerate(shares)) for shares in three]
                self.same(excess(*more), excess(*three))
                self.same(return_cost(*more), return_cost(*three))

    def test_bounds(self):
        for three in list(triples()) + list(some_triples()):
            first, second, third = three
            for one, two in ((first, second), (first, third), (second, third)):
                self.assertLessEqual(excess(*three), lost(one, two))
            if len(first) <= 2 or sum(first) <= 1 or lies_between(second, first, third):
                self.same(excess(*three), 0)

    def test_taken_back(self):
        for first, second in product(all_allocations(4, 3), repeat=2):
            self.same(excess(first, second, first), 0)
            self.same(return_cost(first, second, first), 0)

    def test_great_sizes(self):
        self.same(excess((10, 10, 0), (10, 0, 10), (0, 10, 10)), 10)
        self.same(excess((20, 0, 0, 0, 0), (0, 20, 0, 0, 0), (0, 0, 20, 0, 0)), 0)
        self.same(excess((20,), (20,), (20,)), 0)
        self.same(excess((0,), (0,), (0,)), 0)


class TableOfThree(Case):
    """Promises 45 and 52."""

    def test_against_all_tables(self):
        for three in list(triples())[::2] + list(some_triples()):
            right = [table for table in tables_of(three) if is_minimal_for_three(three, table)]
            self.assertEqual(bool(right), over(three) <= 0)
            found = table_of_three(*three)
            if right:
                self.assertIn(repr(found), [repr(table) for table in right])
            else:
                self.same(found, None)
            counts = {sum(len({a, b, c}) == 3 for a, b, c in zip(*table)) for table in right}
            self.same([all_different(*three)], sorted(counts) if right else [None])

    def test_great_sizes(self):
        for three in great_triples():
            table = table_of_three(*three)
            self.assertEqual(table is None, over(three) > 0)
            self.same(all_different(*three), None if over(three) > 0 else -over(three))
            if table is not None:
                self.assertEqual([tuple(row.count(v) for v in range(len(three[0]))) for row in table], list(three))
                self.assertTrue(is_minimal_for_three(three, table))

    def test_kinds(self):
        self.same(table_of_three((0,), (0,), (0,)), ((), (), ()))
        self.same(table_of_three((1, 0), (1, 0), (1, 0)), ((0,), (0,), (0,)))
        self.same(all_different((4, 0, 0), (0, 4, 0), (0, 0, 4)), 4)
        self.same(all_different((1, 0), (1, 0), (1, 0)), 0)


class AcceptsThree(Case):
    """Promise 46."""

    def test_against_all_tables_of_any_assignments(self):
        for three in list(triples())[::19]:
            first, second, third = three
            everything = [row for shares in all_allocations(len(first), sum(first)) for row in assignments_of(shares)]
            for table in list(product(everything, repeat=3))[::7]:
                shares = [tuple(row.count(v) for v in range(len(first))) for row in table]
                wanted = shares == list(three) and is_minimal_for_three(three, table)
                self.same(accepts_three(first, second, third, ("table", table)), wanted)

    def test_answers_of_exactly_one_word(self):
        for three in triples():
            middle = middles(three)
            self.same(accepts_three(*three, ("medians", middle)), over(three) > 0)
            table = table_of_three(*three)
            if table is not None:
                self.same(accepts_three(*three, ("table", table)), True)
            for word in ("", "tables", "median", "Table", "none", None, 0):
                self.same(accepts_three(*three, (word, middle)), False)
                self.same(accepts_three(*three, (word, table)), False)

    def test_changed_medians(self):
        for three in list(triples())[::3] + [HARD]:
            middle = middles(three)
            for place, number in product(range(len(middle)), (-1, 1)):
                changed = middle[:place] + (middle[place] + number,) + middle[place + 1:]
                self.same(accepts_three(*three, ("medians", changed)), False)
        for value in NOTHING + ((), (1, 1), (1, 1, 1, 1), [1, 1, 1], (1, 1, 2), (True, 1, 1), (1, 1, 1.0), "111", (1, 1, (1,))):
            self.same(accepts_three(*HARD, ("medians", value)), False)

    def test_no_table_for_hard_ones(self):
        for table in tables_of(HARD):
            self.same(accepts_three(*HARD, ("table", table)), False)

    def test_changed_tables(self):
        table = ((0, 1, 0, 0), (0, 1, 1, 1), (0, 1, 1, 0))
        self.same(accepts_three(*EASY, ("table", table)), True)
        self.same(accepts_three(*EASY, ("table", (table[1], table[0], table[2]))), False)
        for at, bucket in product(range(3), range(4)):
            row = table[at]
            for value in (1 - row[bucket], 2, -1, None, bool(row[bucket]), float(row[bucket]), (0,)):
                changed = list(table)
                changed[at] = row[:bucket] + (value,) + row[bucket + 1:]
                self.same(accepts_three(*EASY, ("table", tuple(changed))), False)

    def test_wrong_forms(self):
        table = ((0, 1, 0, 0), (0, 1, 1, 1), (0, 1, 1, 0))
        for value in NOTHING + (
                (), ("table",), ("table", table, ()), ["table", table], ("table", list(table)), ("table", table[:2]),
                ("table", table + table[:1]), (table, "table"), (("table", table),), ("table", None), ("table", ()), table,
                ("table", (table[0], table[1], list(table[2]))), ("table", (table[0], table[1], None)),
                ("table", (table[0], table[1], (0, 1, 1))), ("table", (table[0], table[1], (0, 1, 1, 0, 0))),
                ("table", (0, 1, 2)), ("table", "012"), ("medians", table), ("table", (2, 2)), (["table"], table)):
            self.same(accepts_three(*EASY, value), False)
        self.same(accepts_three((0,), (0,), (0,), ("table", ((), (), ()))), True)
        self.same(accepts_three((0,), (0,), (0,), ("medians", (0,))), False)


class Returns(Case):
    """Promises 47 and 48."""

    def test_against_all_returns(self):
        for three in list(triples())[::3] + list(some_triples())[::2]:
            first, second, third = three
            cost = return_cost(*three)
            self.same(cost, lost(first, third) + max(0, over(three)))
            for start in assignments_of(first):
                middles_of = [row for row in assignments_of(second) if least(first, second, start, row)]
                chains = [(start, row, end) for row in middles_of for end in assignments_of(third)
                          if least(second, third, row, end)]
                self.assertEqual(min(moved(chain[0], chain[2]) for chain in chains), cost)
                found = returned(*three, start)
                best = [chain[1:] for chain in chains if moved(chain[0], chain[2]) == cost]
                self.assertIn(repr(found), [repr(chain) for chain in best])

    def test_judge_against_all_chains(self):
        for three in list(triples())[::23] + [HARD]:
            cost = return_cost(*three)
            for chain in tables_of(three):
                wanted = is_return(three, chain) and moved(chain[0], chain[2]) == cost
                self.same(accepts_return(*three, chain), wanted)

    def test_great_sizes(self):
        chance = random.Random(6)
        for three in great_triples():
            start = [v for v, share in enumerate(three[0]) for _ in range(share)]
            chance.shuffle(start)
            start = tuple(start)
            chain = (start,) + returned(*three, start)
            self.assertTrue(is_return(three, chain))
            self.assertEqual(moved(chain[0], chain[2]), lost(three[0], three[2]) + max(0, over(three)))
            self.same(accepts_return(*three, chain), True)

    def test_dear_returns(self):
        # Whatever the way is, more is lost than in the direct change.
        for three in (((10, 10, 0), (0, 10, 10), (10, 0, 10)), ((5, 5, 5, 5, 0), (0, 0, 5, 5, 10), (5, 5, 0, 0, 10))):
            for order in permutations(three):
                start = tuple(v for v, share in enumerate(order[0]) for _ in range(share))
                self.same(accepts_return(*order, (start,) + returned(*order, start)), True)
        self.same(return_cost((10, 10, 0), (0, 10, 10), (10, 0, 10)), 20)

    def test_several_variants_come_back(self):
        # Only so many buckets of the variants that the second allocation has least can be spared.
        for three in (
                ((1, 1, 1, 1, 0), (2, 0, 0, 1, 1), (0, 1, 1, 0, 2)), ((1, 1, 0, 1, 1), (0, 0, 1, 2, 1), (1, 1, 2, 0, 0)),
                ((1, 1, 2, 0, 0), (0, 0, 3, 0, 1), (1, 1, 0, 0, 2)), ((0, 1, 1, 0, 2), (2, 0, 0, 0, 2), (1, 1, 1, 1, 0))):
            for start in assignments_of(three[0]):
                chain = (start,) + returned(*three, start)
                self.assertTrue(is_return(three, chain))
                self.assertEqual(moved(chain[0], chain[2]), lost(three[0], three[2]) + over(three))

    def test_exchanged_buckets_and_changed_variants(self):
        first, second, third = (2, 2, 0), (1, 2, 1), (1, 1, 2)
        start = (0, 0, 1, 1)
        chain = (start,) + returned(first, second, third, start)
        self.same(accepts_return(first, second, third, chain), True)
        for at, (one, two) in product(range(3), ((0, 1), (0, 2), (1, 3), (2, 3))):
            row = list(chain[at])
            row[one], row[two] = row[two], row[one]
            other = chain[:at] + (tuple(row),) + chain[at + 1:]
            wanted = is_return((first, second, third), other) and moved(other[0], other[2]) == 2
            self.same(accepts_return(first, second, third, other), wanted)
        for at, bucket, value in product(range(3), range(4), (0, 1, 2, 3, -1, None, False, True, "0", (0,))):
            if repr(value) != repr(chain[at][bucket]):
                row = chain[at][:bucket] + (value,) + chain[at][bucket + 1:]
                self.same(accepts_return(first, second, third, chain[:at] + (row,) + chain[at + 1:]), False)

    def test_wrong_forms(self):
        chain = ((0, 1), (0, 2), (1, 2))
        self.same(accepts_return(*HARD, chain), True)
        for value in NOTHING + (
                (), chain[:2], chain + chain[2:], list(chain), ([0, 1], (0, 2), (1, 2)), ((0, 1), [0, 2], (1, 2)),
                ((0, 1), (0, 2), None), ((0, 1), (0, 2), (1,)), ((0, 1), (0, 2), (1, 2, 0)), ("01", "02", "12"), (0, 1, 2),
                chain[::-1], ("chain", chain), ((0, 1), (0, 2), ((1, 2),)), ((0, True), (0, 2), (1, 2))):
            self.same(accepts_return(*HARD, value), False)


class Between(Case):
    """Promise 49."""

    def test_lies_between(self):
        for middle, first, second in triples():
            wanted = lost(first, middle) + lost(middle, second) == lost(first, second)
            self.same(lies_between(middle, first, second), wanted)

    def test_bridge_against_all_allocations(self):
        for three in list(triples()) + list(some_triples()):
            first, second, third = three
            found = []
            for middle in all_allocations(len(first), sum(first)):
                sides = ((first, second), (first, third), (second, third))
                if all(lost(a, middle) + lost(middle, b) == lost(a, b) for a, b in sides):
                    found.append(middle)
            self.assertEqual(bool(found), over(three) == 0)
            self.assertLessEqual(len(found), 1)
            self.same(bridge(*three), found[0] if found else None)

    def test_great_sizes(self):
        self.same(bridge((20, 0, 0), (0, 20, 0), (10, 10, 0)), (10, 10, 0))
        self.same(bridge((20, 0, 0), (0, 20, 0), (0, 0, 20)), None)
        self.same(lies_between((10, 10), (20, 0), (0, 20)), True)
        self.same(lies_between((20, 0), (10, 10), (0, 20)), False)


class Example(Case):
    """Promise 54."""

    def test_example(self):
        self.same(excess(*HARD), 1)
        self.same(accepts_three(*HARD, ("medians", (1, 1, 1))), True)
        self.same(accepts_return(*HARD, ((0, 1), (0, 2), (1, 2))), True)
        self.same(return_cost(*HARD), 2)
        self.same(lost(HARD[0], HARD[2]), 1)
        far = ((4, 0, 0), (0, 4, 0), (0, 0, 4))
        self.same(middles(far), (0, 0, 0))
        self.same(table_of_three(*far), ((0, 0, 0, 0), (1, 1, 1, 1), (2, 2, 2, 2)))


class WrongArguments(Case):
    """Promises 2, 7 and 53."""

    FIRST = NOTHING + (
        (), (1,) * 6, (21,), (11, 10), (-1, 2), (True, 1), (1, None), [1, 1], "11", (1, "1"), ((1, 1),), (1, 1.0))
    LIKE = NOTHING + ((), (2,), (1, 0), (1, 1), (1, 0, 0), (2, 1, 0), (3, -1, 0), (2, False, 0), (2, 0, None), [2, 0, 0], "200")

    def test_functions_of_three(self):
        for function in (excess, table_of_three, all_different, return_cost, bridge):
            self.checks_arguments(
                function, ((2, 0, 0), (1, 1, 0), (0, 1, 1)), ("first", self.FIRST), ("second", self.LIKE), ("third", self.LIKE))

    def test_lies_between(self):
        self.checks_arguments(
            lies_between, ((2, 0, 0), (1, 1, 0), (0, 1, 1)),
            ("middle", self.FIRST), ("first", self.LIKE), ("second", self.LIKE))

    def test_returned(self):
        wrong = NOTHING + (
            (), (0,), (0, 1), (0, 0, 0), (0, 3), (1, 1), (0, -1), (0, True), (False, 0), [0, 0], "00", (0, None), ((0, 0),))
        self.checks_arguments(
            returned, ((2, 0, 0), (1, 1, 0), (0, 1, 1), (0, 0)),
            ("first", self.FIRST), ("second", self.LIKE), ("third", self.LIKE), ("assignment", wrong))

    def test_judges(self):
        for judge in (accepts_three, accepts_return):
            def judged(first, second, third):
                return judge(first, second, third, None)
            self.checks_arguments(
                judged, ((2, 0, 0), (1, 1, 0), (0, 1, 1)),
                ("first", self.FIRST), ("second", self.LIKE), ("third", self.LIKE))

    def test_bounds_are_let(self):
        most = (4, 4, 4, 4, 4)
        self.same(excess(most, most, most), 0)
        self.same(lies_between(most, most, most), True)
        self.same(returned(most, most, most, (0, 1, 2, 3, 4) * 4), ((0, 1, 2, 3, 4) * 4,) * 2)
        self.same(returned((0,), (0,), (0,), ()), ((), ()))
