import random
from itertools import product

from leastmoved.errors import TooLarge
from leastmoved.histories import (
    calm_history, changes_of, decreases, direct, first_history, first_turn, least_limit, overdrawn, total, within, wrong_step)
from tests.base import NOTHING, Case
from tests.brute import all_allocations, histories_of, is_minimal_table, lost, moved, tables_of
from tests.test_plans import NO_ALLOCATIONS as NO_SIX_ALLOCATIONS

DOWN = ((2, 0), (1, 1), (2, 0))
# Wrong as up to ten allocations.
NO_ALLOCATIONS = tuple(value for value in NO_SIX_ALLOCATIONS if value != ((1, 1),) * 7) + (((1, 1),) * 11,)


def rows_of_allocations():
    """Several allocations one after another, of small sizes."""
    yield from [((2, 1),), ((0,),), ((0,), (0,)), ((1, 0, 0, 0, 0),), ((2,), (2,), (2,))]
    for variants, buckets, many in ((2, 2, 3), (2, 2, 4), (2, 3, 3), (3, 2, 2), (3, 2, 3), (3, 1, 4), (2, 1, 5)):
        yield from product(all_allocations(variants, buckets), repeat=many)
    yield from list(product(all_allocations(3, 2), repeat=4))[::11]
    yield from list(product(all_allocations(3, 3), repeat=3))[::13]
    yield from list(product(all_allocations(2, 4), repeat=4))[::19]
    yield from list(product(all_allocations(2, 2), repeat=6))[::23]
    yield from list(product(all_allocations(4, 2), repeat=3))[::31]


def great_rows():
    """Ten allocations of up to twenty buckets and five variants, the same ones each time."""
    chance = random.Random(7)
    for buckets in (9, 14, 20) * 20:
        variants = chance.choice((2, 3, 5))
        owners = [chance.choice(range(variants)) for _ in range(buckets)]
        rows = []
        for _ in range(10):
            for _ in range(chance.choice((0, 1, 1, 2))):
                owners[chance.choice(range(buckets))] = chance.choice(range(variants))
            rows.append(tuple(owners.count(v) for v in range(variants)))
        yield tuple(rows)


def neighbours(parts):
    return list(zip(parts, parts[1:]))


def counts_of(history):
    """The numbers of changes of the buckets, counted without the program."""
    counts = [0] * len(history[0])
    for old, new in neighbours(history):
        for bucket in range(len(old)):
            if old[bucket] != new[bucket]:
                counts[bucket] += 1
    return tuple(counts)


def sum_of_transfers(allocations):
    return sum(lost(before, after) for before, after in neighbours(allocations))


def turns(allocations):
    """All pairs of a variant and a step at which its share turns, as promise 68 tells it."""
    found = []
    for v in range(len(allocations[0])):
        signs = [after[v] - before[v] for before, after in neighbours(allocations)]
        for step, change in enumerate(signs):
            if change > 0 and min([0] + signs[:step]) < 0 or change < 0 and max([0] + signs[:step]) > 0:
                found.append((v, step))
    return found


class Totals(Case):
    """Promises 67, 68 and 69."""

    def test_total_and_direct(self):
        for allocations in list(rows_of_allocations()) + list(great_rows()):
            self.same(total(allocations), sum_of_transfers(allocations))
            self.same(direct(allocations), lost(allocations[0], allocations[-1]))
            self.assertEqual(direct(allocations) == total(allocations), not turns(allocations))
            self.assertLessEqual(direct(allocations), total(allocations))

    def test_first_turn(self):
        for allocations in list(rows_of_allocations()) + list(great_rows()):
            wanted = turns(allocations)
            self.same(first_turn(allocations), wanted[0] if wanted else None)

    def test_turns_after_a_pause(self):
        self.same(first_turn(((2, 0), (1, 1), (1, 1), (2, 0))), (0, 2))
        self.same(first_turn(((0, 2), (1, 1), (1, 1), (0, 2))), (0, 2))
        self.same(first_turn(((1, 1, 1), (1, 0, 2), (1, 1, 1), (1, 2, 0))), (1, 1))
        self.same(first_turn(((1, 1, 1), (1, 2, 0), (0, 3, 0), (1, 2, 0))), (0, 2))
        self.same(first_turn(((2, 0), (1, 1), (0, 2))), None)

    def test_decreases(self):
        for allocations in list(rows_of_allocations()) + list(great_rows()):
            wanted = [0] * len(allocations[0])
            for before, after in neighbours(allocations):
                for v in range(len(before)):
                    wanted[v] += before[v] - after[v] if after[v] < before[v] else 0
            self.same(decreases(allocations), tuple(wanted))
            drawn = [v for v, many in enumerate(wanted) if many > allocations[0][v]]
            self.same(overdrawn(allocations), drawn[0] if drawn else None)

    def test_great_sizes(self):
        swing = ((20, 0), (0, 20)) * 5
        self.same((total(swing), direct(swing), decreases(swing), first_turn(swing)), (180, 20, (100, 80), (0, 1)))
        self.same(overdrawn(swing), 0)
        self.same(overdrawn(((0, 20), (20, 0), (0, 20))), 0)
        self.same(overdrawn(((10, 10), (20, 0), (20, 0))), None)
        self.same(overdrawn(((10, 10), (20, 0), (19, 1), (20, 0))), 1)


class Histories(Case):
    """Promises 67, 70, 74 and 75."""

    def test_first_history(self):
        for allocations in rows_of_allocations():
            self.same(first_history(allocations), histories_of(allocations)[0])

    def test_great_histories(self):
        for allocations in great_rows():
            history = first_history(allocations)
            self.assertEqual(sum(counts_of(history)), sum_of_transfers(allocations))
            self.same(wrong_step(allocations, history), None)

    def test_wrong_step(self):
        for allocations in list(rows_of_allocations())[::5]:
            for table in tables_of(allocations)[::3]:
                steps = zip(neighbours(allocations), neighbours(table))
                wrong = [at for at, (shares, rows) in enumerate(steps) if moved(*rows) != lost(*shares)]
                self.same(wrong_step(allocations, table), wrong[0] if wrong else None)

    def test_changes_of(self):
        for allocations in list(rows_of_allocations())[::5]:
            for history in histories_of(allocations)[::3]:
                self.same(changes_of(allocations, history), counts_of(history))
                self.assertEqual(sum(changes_of(allocations, history)), sum_of_transfers(allocations))
        self.same(changes_of(((1, 1),), ((1, 0),)), (0, 0))
        self.same(changes_of(((0,), (0,)), ((), ())), ())
        self.same(changes_of(DOWN, ((0, 0), (1, 0), (0, 0))), (2, 0))

    def test_without_turns(self):
        for allocations in list(rows_of_allocations())[::3]:
            if not turns(allocations):
                for history in histories_of(allocations)[::2]:
                    self.assertLessEqual(max(counts_of(history), default=0), 1)
                    self.assertTrue(is_minimal_table(len(allocations[0]), history))

    def test_reversed_order(self):
        for allocations in list(rows_of_allocations())[::7]:
            for history in histories_of(allocations)[::5]:
                self.same(wrong_step(allocations[::-1], history[::-1]), None)
                self.same(changes_of(allocations[::-1], history[::-1]), changes_of(allocations, history))
            self.same(least_limit(allocations[::-1])[0], least_limit(allocations)[0])


class Calm(Case):
    """Promises 71 and 73."""

    def test_against_all_histories(self):
        for allocations in rows_of_allocations():
            calm = [history for history in histories_of(allocations) if max(counts_of(history), default=0) <= 1]
            self.same(calm_history(allocations), calm[0] if calm else None)
            self.assertEqual(overdrawn(allocations) is None, bool(calm))

    def test_great_sizes(self):
        for allocations in great_rows():
            history = calm_history(allocations)
            self.assertEqual(history is None, overdrawn(allocations) is not None)
            if history is not None:
                self.same(wrong_step(allocations, history), None)
                self.assertLessEqual(max(changes_of(allocations, history)), 1)

    def test_more_than_six(self):
        steps = tuple((10 - k, 10 + k) for k in range(10))
        self.same(calm_history(steps)[0], (0,) * 10 + (1,) * 10)
        self.same(calm_history(steps)[9], (0,) + (1,) * 19)
        swing = ((4, 4), (5, 3), (4, 4), (5, 3), (4, 4), (5, 3), (4, 4))
        history = calm_history(swing)
        self.same(history[-1], (0, 1, 1, 1, 0, 0, 0, 1))
        self.same(changes_of(swing, history), (0, 1, 1, 1, 1, 1, 1, 0))


class Limits(Case):
    """Promises 72 and 73."""

    def test_against_all_histories(self):
        for allocations in list(rows_of_allocations())[::2]:
            histories = [(max(counts_of(history), default=0), history) for history in histories_of(allocations)]
            for limit in range(5):
                right = [history for most, history in histories if most <= limit]
                self.same(within(allocations, limit), right[0] if right else None)
            least = min(most for most, _ in histories)
            wanted = min(history for most, history in histories if most == least)
            self.same(least_limit(allocations), (least, wanted))

    def test_bounds(self):
        for allocations in rows_of_allocations():
            least, history = least_limit(allocations)
            self.assertGreaterEqual(least * sum(allocations[0]), total(allocations))
            self.assertLess(least, len(allocations))
            self.assertEqual(least == 0, total(allocations) == 0)
            self.assertEqual(least <= 1, calm_history(allocations) is not None)
            self.assertLessEqual(max(changes_of(allocations, history), default=0), least)

    def test_greater_ones(self):
        swing = ((6, 0), (5, 1), (6, 0), (5, 1), (6, 0), (5, 1))
        self.same(least_limit(swing)[0], 2)
        self.same(within(swing, 1), None)
        self.same(within(swing, 9), first_history(swing))
        wild = ((1, 3, 2, 0, 0), (0, 2, 0, 0, 4), (1, 0, 1, 4, 0), (0, 0, 0, 6, 0), (4, 0, 1, 1, 0), (0, 1, 1, 2, 2))
        least, history = least_limit(wild)
        self.same((least, wrong_step(wild, history), max(changes_of(wild, history))), (4, None, 4))
        self.same(within(wild, 3), None)
        self.same(within(wild, 4), history)
        turn = ((6, 0, 0, 0, 0), (0, 6, 0, 0, 0)) * 3
        self.same(least_limit(turn), (5, ((0,) * 6, (1,) * 6) * 3))
        self.same(within(turn, 4), None)

    def test_every_limit_is_let(self):
        for limit in range(10):
            self.same(within(DOWN, limit), ((0, 0), (0, 1), (0, 0)) if limit > 1 else None)
        self.same(within(((1, 1),), 0), ((0, 1),))
        self.same(within(((1, 1), (1, 1)), 0), ((0, 1), (0, 1)))

    def test_first_ones_within(self):
        # The first history would change bucket 1 twice, so the calm one turns to bucket 0.
        self.same(first_history(((1, 1), (0, 2), (1, 1))), ((0, 1), (1, 1), (0, 1)))
        self.same(within(((1, 1), (0, 2), (1, 1)), 1), ((0, 1), (1, 1), (1, 0)))
        self.same(least_limit(((2, 0), (1, 1), (2, 0), (1, 1), (2, 0))), (2, ((0, 0), (0, 1), (0, 0), (1, 0), (0, 0))))


class Example(Case):
    """Promise 77."""

    def test_example(self):
        self.same((total(DOWN), direct(DOWN), first_turn(DOWN), decreases(DOWN)), (2, 0, (0, 1), (1, 1)))
        self.same(calm_history(((1, 1), (0, 2), (1, 1))), ((0, 1), (1, 1), (1, 0)))


class WrongArguments(Case):
    """Promises 2, 7 and 76."""

    def test_allocations(self):
        functions = (
            total, direct, first_turn, decreases, overdrawn, first_history, calm_history, least_limit)
        for function in functions:
            self.checks_arguments(function, (DOWN,), ("allocations", NO_ALLOCATIONS))

    def test_tables_and_histories(self):
        right = ((0, 0), (0, 1), (0, 0))
        tables = NOTHING + (
            (), right[:2], right + right[2:], list(right), ([0, 0], (0, 1), (0, 0)), ((0, 0), (0, 0), (0, 0)),
            ((0, 0), (0, 1), None), ((0, 0), (0, 1), (0,)), ((0, 0), (0, 1), (0, 0, 0)), ((0, 0), (0, 2), (0, 0)),
            ((0, 0), (0, True), (0, 0)), ((0, False), (0, 1), (0, 0)), (0, 1, 2), ("00", "01", "00"), ((0, 0), (0, 1), (0, -1)))
        self.checks_arguments(wrong_step, (DOWN, right), ("allocations", NO_ALLOCATIONS), ("table", tables))
        self.checks_arguments(changes_of, (DOWN, right), ("allocations", NO_ALLOCATIONS), ("history", tables))
        two = ((1, 1), (1, 1))
        self.same(wrong_step(two, ((0, 1), (1, 0))), 0)
        self.refused("history", changes_of, two, ((0, 1), (1, 0)))

    def test_within(self):
        wrong = (-1, 10, 100, None, True, False, "1", (1,), [1], 1.0)
        self.checks_arguments(within, (DOWN, 2), ("allocations", NO_ALLOCATIONS), ("limit", wrong))

    def too_large(self, function, *arguments):
        with self.assertRaises(TooLarge) as caught:
            function(*arguments)
        self.assertEqual(caught.exception.what, "search")

    def test_search(self):
        for allocations in (((1, 1),) * 7, ((7,),), ((3, 4), (4, 3)), ((20,),), ((1, 0),) * 10, ((4,) * 5,) * 10):
            self.too_large(within, allocations, 0)
            self.too_large(within, allocations, 9)
            self.too_large(least_limit, allocations)
            self.refused("limit", within, allocations, 10)
            # The others take them.
            first_history(allocations)
            calm_history(allocations)
            total(allocations)

    def test_six_are_let(self):
        for allocations in (((2, 2, 2),) * 6, ((6,),) * 6, ((6, 0),), ((1, 0),) * 6):
            row = first_history(allocations)
            self.same(within(allocations, 0), row)
            self.same(least_limit(allocations), (0, row))

    def test_ten_are_let(self):
        most = ((4,) * 5,) * 10
        row = (0, 0, 0, 0, 1, 1, 1, 1, 2, 2, 2, 2, 3, 3, 3, 3, 4, 4, 4, 4)
        self.same((total(most), direct(most), first_turn(most), overdrawn(most)), (0, 0, None, None))
        self.same(first_history(most), (row,) * 10)
        self.same(calm_history(most), (row,) * 10)
        self.same(wrong_step(most, (row,) * 9 + (row[::-1],)), 8)
        self.same(changes_of(most, (row,) * 10), (0,) * 20)
