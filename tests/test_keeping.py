from functools import lru_cache
from itertools import product
from random import Random

from leastmoved.exclusions import is_possible
from leastmoved.keeping import bound_by, is_best, levels_for, most_kept
from tests.base import NOTHING, Case
from tests.brute import all_allocations, all_assignments, bound_told, chosen_of, kept_in, lost, pairings
from tests.brute import possible_ones, shares_of
from tests.test_exclusions import MANY, NO_ALLOCATION, NO_FORBIDDEN

HELD = (0, 0, 1, 2)
EXAMPLE = ((1, 1, 2), HELD, ((0, 2), (1, 2)), ())

NO_ASSIGNMENT = NOTHING + (
    (), (0, 0, 1), (0, 0, 1, 2, 2), (0, 0, 1, 3), (0, 0, 1, -1), (0, 0, True, 2), (False, 0, 1, 2), (0, 0, 1, None),
    (0, 0, 1.0, 2), [0, 0, 1, 2], "0012", ((0, 0, 1, 2),))
# Wrong for four buckets and three variants.
NO_PINS = NO_FORBIDDEN + (((0, 0), (0, 1)), ((0, 1), (1, 0), (1, 1)))
NO_LEVELS = NOTHING + (
    (), (0, 0), (0, 0, 0, 0), (0, 0, 1001), (-1001, 0, 0), (0, True, 0), (False, 0, 0), (0, 0, None), (0, 0, 1.0),
    [0, 0, 0], "000", ((0, 0, 0),))


def pin_tuples(variants, buckets):
    """All tuples of pins."""
    choices = [[None] + [(b, v) for v in range(variants)] for b in range(buckets)]
    return [tuple(pin for pin in chosen if pin is not None) for chosen in product(*choices)]


def cases():
    """Small settings: allocations, assignments, forbidden pairs and pins."""
    for variants, buckets in ((1, 0), (1, 1), (2, 1), (2, 2)):
        for forbidden in chosen_of(pairings(variants, buckets)):
            for pins in pin_tuples(variants, buckets):
                for allocation in all_allocations(variants, buckets):
                    for held in all_assignments(variants, buckets):
                        yield allocation, held, forbidden, pins
    random = Random(114)
    for variants, buckets, many in ((1, 3, 5), (2, 4, 60), (3, 2, 80), (3, 3, 300), (3, 5, 150), (4, 3, 150), (4, 4, 150), (5, 3, 120), (5, 4, 60)):
        everything = all_allocations(variants, buckets)
        for each in range(many):
            rare = (0.05, 0.2, 0.35)[each % 3]
            forbidden = tuple(pair for pair in pairings(variants, buckets) if random.random() < rare)
            pinned = [b for b in range(buckets) if random.random() < 0.2 * (each % 2)]
            held = tuple(random.randrange(variants) for _ in range(buckets))
            # Half of the pins are the variants that the buckets have.
            pins = tuple((b, random.choice((held[b], random.randrange(variants)))) for b in pinned)
            yield random.choice(everything), held, forbidden, pins


CASES = list(cases())
# Those in which something can be kept, with several variants.
LARGER = [case for case in CASES if len(case[0]) > 2 and possible_ones(case[0], case[2], case[3])]


def best_by_words(allocation, held, forbidden, pins):
    """The greatest number and the first assignment that keeps so many, or None."""
    found = possible_ones(allocation, forbidden, pins)
    if not found:
        return None
    most = max(kept_in(held, row) for row in found)
    return (most, [row for row in found if kept_in(held, row) == most][0])


@lru_cache(maxsize=None)
def all_levels(variants):
    return list(product(range(variants), repeat=variants))


class MostKept(Case):
    """Promises 114, 115 and 119."""

    def test_first_of_the_best_ones(self):
        for case in CASES:
            self.same(most_kept(*case), best_by_words(*case))

    def test_pins_permit_no_forbidden_variant(self):
        self.same(most_kept((1, 1), (0, 1), ((0, 0),), ((0, 0),)), None)
        self.same(levels_for((1, 1), (0, 1), ((0, 0),), ((0, 0),)), None)
        self.same(most_kept((1, 1), (0, 1), ((0, 0),), ((0, 1),)), (0, (1, 0)))
        self.same(most_kept((1, 1), (0, 1), (), ((0, 0),)), (2, (0, 1)))

    def test_too_many_pins_of_a_variant(self):
        self.same(most_kept((1, 3), HELD[:2] + (1, 1), (), ((0, 0), (1, 0))), None)
        self.same(most_kept((2, 2), HELD[:2] + (1, 1), (), ((0, 0), (1, 0))), (4, (0, 0, 1, 1)))

    def test_nothing_forbidden_and_nothing_pinned(self):
        for variants, buckets in ((2, 3), (3, 3), (4, 2)):
            for held in all_assignments(variants, buckets):
                for allocation in all_allocations(variants, buckets):
                    kept, _ = most_kept(allocation, held, (), ())
                    self.same(kept, buckets - lost(shares_of(held, variants), allocation))

    def test_dropping_some_does_not_make_it_less(self):
        for allocation, held, forbidden, pins in LARGER:
            kept, _ = most_kept(allocation, held, forbidden, pins)
            self.assertLessEqual(kept, len(held) - lost(shares_of(held, len(allocation)), allocation))
            for at in range(len(forbidden)):
                more, _ = most_kept(allocation, held, forbidden[:at] + forbidden[at + 1:], pins)
                self.assertLessEqual(kept, more)
            for at in range(len(pins)):
                more, _ = most_kept(allocation, held, forbidden, pins[:at] + pins[at + 1:])
                self.assertLessEqual(kept, more)

    def test_given_assignment_may_be_any(self):
        # Neither an assignment of the allocation, nor without forbidden variants.
        self.same(most_kept((0, 2), (0, 0), ((0, 0),), ()), (0, (1, 1)))
        self.same(most_kept((2, 0), (0, 0), ((0, 0),), ()), None)

    def test_examples(self):
        self.same(most_kept(*EXAMPLE), (2, (0, 1, 2, 2)))
        self.same(most_kept((2, 2), (0, 0, 1, 1), (), ((0, 1),)), (2, (1, 0, 0, 1)))


class Bounds(Case):
    """Promises 116 and 118."""

    def test_against_the_words(self):
        random = Random(116)
        for case in CASES:
            variants = len(case[0])
            levels = [tuple(random.randint(-2, variants) for _ in range(variants)), (0,) * variants, (-1000,) * variants]
            levels.append(tuple(random.randint(-1000, 1000) for _ in range(variants)))
            for each in levels:
                self.same(bound_by(*case, each), bound_told(*case, each))

    def test_no_possible_assignment_above_a_bound(self):
        random = Random(117)
        for case in LARGER:
            most, _ = best_by_words(*case)
            for _ in range(5):
                levels = tuple(random.randint(-3, 4) for _ in case[0])
                self.assertGreaterEqual(bound_by(*case, levels), most)

    def test_no_open_variant(self):
        self.same(bound_by((1, 1), (0, 1), ((1, 0), (1, 1)), (), (0, 0)), None)
        self.same(bound_by((1, 1), (0, 1), ((1, 0),), ((1, 0),), (0, 0)), None)
        # There is a bound, though no assignment is possible.
        self.same(bound_by((1, 1), (0, 1), ((0, 1), (1, 1)), (), (0, 0)), 1)
        self.same(bound_by((1, 1), (0, 1), ((0, 1), (1, 1)), (), (0, 1000)), 1001)

    def test_pinned_buckets_count_as_kept(self):
        self.same(bound_by((1, 1), (0, 1), (), ((0, 0),), (0, 0)), 2)
        self.same(bound_by((1, 1), (0, 1), (), ((0, 1),), (0, 0)), 1)

    def test_example(self):
        self.same(bound_by(*EXAMPLE, (1, 0, 0)), 3)
        self.same(bound_by(*EXAMPLE, (2, 1, 0)), 2)


class Levels(Case):
    """Promise 117."""

    def test_first_of_all_that_reach_the_greatest_number(self):
        for case in CASES:
            best = best_by_words(*case)
            wanted = None
            if best is not None:
                reaching = [each for each in all_levels(len(case[0])) if bound_told(*case, each) == best[0]]
                wanted = reaching[0]
            self.same(levels_for(*case), wanted)

    def test_great_sizes(self):
        random = Random(5)
        for rare in (0, 0.1, 0.3, 0.5):
            for _ in range(4):
                held = tuple(random.randrange(5) for _ in range(20))
                cuts = sorted(random.randint(0, 20) for _ in range(4))
                allocation = tuple(b - a for a, b in zip([0] + cuts, cuts + [20]))
                forbidden = tuple(pair for pair in pairings(5, 20) if random.random() < rare)
                self.check_great(allocation, held, forbidden, ())
                self.check_great(allocation, held, forbidden, ((3, held[3]), (11, held[11])))
        self.check_great((4, 4, 4, 4, 4), (0,) * 20, MANY, ())

    def check_great(self, allocation, held, forbidden, pins):
        levels = levels_for(allocation, held, forbidden, pins)
        best = most_kept(allocation, held, forbidden, pins)
        self.assertEqual(best is None, levels is None)
        if best is not None:
            kept, row = best
            self.same(is_possible(allocation, forbidden, row), True)
            self.same(kept_in(held, row), kept)
            self.same(bound_by(allocation, held, forbidden, pins, levels), kept)
            self.same(is_best(allocation, held, forbidden, pins, row, levels), True)
            # No earlier levels reach it: not even those in which one level is lower by 1.
            for v in range(5):
                if levels[v] > 0:
                    lower = levels[:v] + (levels[v] - 1,) + levels[v + 1:]
                    self.assertGreater(bound_by(allocation, held, forbidden, pins, lower), kept)

    def test_greatest_levels(self):
        # Each bucket has to go on to the next variant, so each level is higher than the one behind it.
        forbidden = tuple(sorted((b, v) for b in range(4) for v in range(5) if v not in (b, b + 1)))
        case = ((0, 1, 1, 1, 1), (0, 1, 2, 3), forbidden, ())
        self.same(most_kept(*case), (0, (1, 2, 3, 4)))
        self.same(levels_for(*case), (4, 3, 2, 1, 0))

    def test_one_variant(self):
        self.same(levels_for((3,), (0, 0, 0), (), ()), (0,))
        self.same(levels_for((0,), (), (), ()), (0,))
        self.same(levels_for((1,), (0,), ((0, 0),), ()), None)

    def test_example(self):
        self.same(levels_for(*EXAMPLE), (2, 1, 0))


class IsBest(Case):
    """Promises 117 and 118."""

    def test_exactly_the_best_ones_with_levels_that_reach(self):
        for case in CASES[::3]:
            variants, buckets = len(case[0]), len(case[1])
            if variants ** buckets > 100:
                continue
            possible = possible_ones(case[0], case[2], case[3])
            levels = all_levels(variants)[::1 if variants < 4 else 41]
            first = levels_for(*case)
            if first is not None:
                levels = levels + [first, tuple(level - 7 for level in first), tuple(level + 990 for level in first)]
            for row in all_assignments(variants, buckets)[::1 if buckets < 4 else 3] + possible[:3]:
                for each in levels[::1 if buckets < 3 else 4] + levels[-3:]:
                    wanted = row in possible and kept_in(row, case[1]) == bound_told(*case, each)
                    self.same(is_best(*case, row, each), wanted)

    def test_what_is_taken_is_best(self):
        for case in LARGER:
            best, levels = most_kept(*case), levels_for(*case)
            self.same(is_best(*case, best[1], levels), True)
            for row in possible_ones(case[0], case[2], case[3]):
                self.same(is_best(*case, row, levels), kept_in(row, case[1]) == best[0])

    def test_a_level_changed(self):
        for case in LARGER[::2]:
            _, row = most_kept(*case)
            levels = levels_for(*case)
            for v, change in product(range(len(levels)), (-1, 1, 500)):
                other = levels[:v] + (levels[v] + change,) + levels[v + 1:]
                reached = bound_told(*case, other) == kept_in(row, case[1])
                self.same(is_best(*case, row, other), reached)

    def test_assignments_of_every_kind(self):
        for value in NOTHING + (
                (), (0, 1, 2), (0, 1, 2, 2, 2), (0, 0, 1, 2), (0, 1, 2, 3), (0, 1, -1, 2), [0, 1, 2, 2], "0122",
                (False, 1, 2, 2), (0, True, 2, 2), (0, 1, 2, None), (0, 1, 2.0, 2), ((0,), 1, 2, 2), (2, 0, 1, 2),
                (1, 0, 2, 2.0), ((0, 1, 2, 2),)):
            self.same(is_best(*EXAMPLE, value, (2, 1, 0)), False)
        for value in ((0, 1, 2, 2), (1, 0, 2, 2)):
            self.same(is_best(*EXAMPLE, value, (2, 1, 0)), True)

    def test_levels_of_every_kind(self):
        for value in NOTHING + (
                (), (2, 1), (2, 1, 0, 0), (1, 0, 0), [2, 1, 0], "210", (2, True, 0), (2, 1, False), (2, 1, None),
                (2, 1.0, 0), ((2, 1, 0),), (2, "1", 0), ((2,), 1, 0)):
            self.same(is_best(*EXAMPLE, (0, 1, 2, 2), value), False)
        for value in ((2, 1, 0), (3, 2, 1), (1000, 999, 998), (-998, -999, -1000)):
            self.same(is_best(*EXAMPLE, (0, 1, 2, 2), value), True)

    def test_pins_are_kept(self):
        case = ((2, 2), (0, 0, 1, 1), (), ((0, 1),))
        self.same(is_best(*case, (1, 0, 0, 1), levels_for(*case)), True)
        self.same(is_best(*case, (0, 0, 1, 1), levels_for(*case)), False)
        self.same(is_best(*case[:3], (), (0, 0, 1, 1), (0, 0)), True)

    def test_nothing_is_possible(self):
        self.same(is_best((1, 1), (0, 1), ((1, 0), (1, 1)), (), (0, 1), (0, 0)), False)
        self.same(is_best((1, 1), (0, 1), ((0, 1), (1, 1)), (), (0, 1), (0, 0)), False)


class Renaming(Case):
    """Promise 120."""

    def test_buckets_and_variants(self):
        random = Random(120)
        for allocation, held, forbidden, pins in LARGER:
            k, n = len(allocation), len(held)
            names, places = random.sample(range(k), k), random.sample(range(n), n)
            shares = tuple(allocation[names.index(v)] for v in range(k))
            row = tuple(names[held[places.index(b)]] for b in range(n))
            pairs = tuple(sorted((places[b], names[v]) for b, v in forbidden))
            other_pins = tuple(sorted((places[b], names[v]) for b, v in pins))
            self.same(most_kept(shares, row, pairs, other_pins)[0], most_kept(allocation, held, forbidden, pins)[0])


class WrongArguments(Case):
    """Promises 2, 7 and 121."""

    WRONG = (
        ("allocation", NO_ALLOCATION), ("assignment", NO_ASSIGNMENT), ("forbidden", NO_FORBIDDEN), ("pins", NO_PINS))
    RIGHT = ((1, 1, 2), HELD, ((0, 2), (1, 2)), ((2, 0), (3, 2)))

    def test_most_kept_and_levels_for(self):
        for function in (most_kept, levels_for):
            self.checks_arguments(function, self.RIGHT, *self.WRONG)

    def test_bound_by(self):
        self.checks_arguments(bound_by, self.RIGHT + ((0, 0, 0),), *self.WRONG, ("levels", NO_LEVELS))

    def test_is_best(self):
        self.checks_arguments(lambda *told: is_best(*told, None, None), self.RIGHT, *self.WRONG)

    def test_bounds_are_let(self):
        self.same(bound_by((1, 1, 2), HELD, (), (), (1000, 1000, 1000)), 4)
        self.same(bound_by((1, 1, 2), HELD, (), (), (-1000, -1000, -1000)), 4)
        # The levels of the shares add up to 0; each bucket is worth most with variant 1, which one of them holds.
        self.same(bound_by((1, 1, 2), HELD, (), (), (1000, -1000, 0)), 4001)
        self.refused("levels", bound_by, (1, 1, 2), HELD, (), (), (1001, 0, 0))
        self.refused("levels", bound_by, (1, 1, 2), HELD, (), (), (0, 0, -1001))
        whole = ((4, 4, 4, 4, 4), (0, 1, 2, 3, 4) * 4, (), tuple((b, b % 5) for b in range(20)))
        self.same(most_kept(*whole), (20, whole[1]))
        self.same(levels_for(*whole), (0, 0, 0, 0, 0))
        self.same(most_kept((0,), (), (), ()), (0, ()))
        self.same(is_best((0, 0, 0, 0, 0), (), (), (), (), (0, 0, 0, 0, 0)), True)
