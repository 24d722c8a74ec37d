from itertools import product
from random import Random

from leastmoved.exclusions import first_possible, is_possible, is_too_small, too_small
from tests.base import NOTHING, Case
from tests.brute import all_allocations, all_assignments, chosen_of, pairings, possible_ones, shares_of, subsets

# Twenty buckets and five variants; each bucket has all variants but one or two.
MANY = tuple(sorted({(b, (b * 3 + 1) % 5) for b in range(20)} | {(b, b % 5) for b in range(20)}))
# Variant 0 alone is left for the first three of six buckets, and has two of them.
TIGHT = ((0, 1), (0, 2), (1, 1), (1, 2), (2, 1), (2, 2), (4, 0))

NO_ALLOCATION = NOTHING + (
    (), (1.0, 2), (1, True), (1, None), (-1, 3), (21,), (10, 11), (1, 1, 1, 1, 1, 1), [1, 1, 2], "112", ((1, 1, 2),))
# Wrong for four buckets and three variants.
NO_FORBIDDEN = NOTHING + (
    (0, 2), ((0, 2), (0, 2)), ((1, 2), (0, 2)), ((0, 2), (0, 1)), ((0, 3),), ((4, 0),), ((-1, 0),), ((0, -1),), ((0,),),
    ((0, 1, 2),), ((),), [(0, 2)], ([0, 2],), ((0, True),), ((False, 2),), ((0, None),), ((0, 1.0),), ("02",), ((0, "2"),),
    ((0, 2), None), (((0, 2),),), ((0, 2), (1, 2), (1, 2)))


def cases():
    """Small allocations with forbidden pairs."""
    for variants, buckets in ((1, 0), (1, 2), (2, 0), (2, 1), (2, 2), (2, 3), (3, 1), (3, 2)):
        for allocation in all_allocations(variants, buckets):
            for forbidden in chosen_of(pairings(variants, buckets)):
                yield allocation, forbidden
    random = Random(20)
    for variants, buckets in ((3, 4), (4, 3), (5, 3), (4, 4)):
        everything = all_allocations(variants, buckets)
        for _ in range(120):
            forbidden = tuple(pair for pair in pairings(variants, buckets) if random.random() < 0.45)
            yield random.choice(everything), forbidden


CASES = list(cases())


def open_by_words(allocation, forbidden):
    """The set of the open variants of each bucket."""
    return [{v for v in range(len(allocation)) if (b, v) not in forbidden} for b in range(sum(allocation))]


def obstacle_by_words(allocation, forbidden):
    """The first obstacle, as promises 112 and 113 tell it, or None."""
    can_have = open_by_words(allocation, forbidden)
    for chosen in subsets(len(allocation)):
        buckets = tuple(b for b, own in enumerate(can_have) if own <= set(chosen))
        if len(buckets) > sum(allocation[v] for v in chosen):
            return (chosen, buckets)
    return None


class Possible(Case):
    """Promise 111."""

    def test_is_possible_against_the_words(self):
        for allocation, forbidden in CASES:
            if sum(allocation) <= 3:
                right = possible_ones(allocation, forbidden)
                for row in all_assignments(len(allocation), sum(allocation)):
                    self.same(is_possible(allocation, forbidden, row), row in right)

    def test_first_of_all(self):
        for allocation, forbidden in CASES:
            right = possible_ones(allocation, forbidden)
            self.same(first_possible(allocation, forbidden), right[0] if right else None)

    def test_nothing_forbidden(self):
        for allocation in all_allocations(3, 4):
            self.same(first_possible(allocation, ()), tuple(v for v in range(3) for _ in range(allocation[v])))
            self.same(too_small(allocation, ()), None)

    def test_values_of_every_kind(self):
        for value in NOTHING + (
                (), (0, 1, 2), (0, 1, 2, 2, 2), (0, 0, 1, 2), (0, 1, 2, 3), (0, 1, -1, 2), [0, 1, 2, 2], "0122",
                (False, 1, 2, 2), (0, True, 2, 2), (0, 1, 2, None), (0, 1, 2.0, 2), (0, 1, "2", 2), ((0,), 1, 2, 2),
                (2, 0, 1, 2), ((0, 1, 2, 2),)):
            self.same(is_possible((1, 1, 2), ((0, 2), (1, 2)), value), False)
        self.same(is_possible((1, 1, 2), ((0, 2), (1, 2)), (0, 1, 2, 2)), True)
        self.same(is_possible((1, 1, 2), (), (2, 0, 1, 2)), True)

    def test_great_sizes(self):
        for allocation in ((4, 4, 4, 4, 4), (8, 3, 3, 3, 3), (1, 2, 3, 4, 10), (12, 0, 0, 0, 8)):
            found = first_possible(allocation, MANY)
            self.assertEqual(found is None, too_small(allocation, MANY) is not None)
            if found is not None:
                self.same(is_possible(allocation, MANY, found), True)
                self.assertEqual(shares_of(found, 5), allocation)
        self.assertIsNotNone(first_possible((4, 4, 4, 4, 4), MANY))
        self.assertIsNone(first_possible((20, 0, 0, 0, 0), MANY))


class Obstacles(Case):
    """Promises 112 and 113."""

    def test_first_obstacle(self):
        for allocation, forbidden in CASES:
            self.same(too_small(allocation, forbidden), obstacle_by_words(allocation, forbidden))

    def test_either_an_assignment_or_an_obstacle(self):
        for allocation, forbidden in CASES:
            found = too_small(allocation, forbidden)
            self.assertEqual(found is None, bool(possible_ones(allocation, forbidden)))
            self.assertEqual(found is None, first_possible(allocation, forbidden) is not None)
            if found is not None:
                self.same(is_too_small(allocation, forbidden, found), True)

    def test_is_too_small_against_the_words(self):
        for allocation, forbidden in CASES[::7]:
            can_have = open_by_words(allocation, forbidden)
            for chosen, buckets in product(subsets(len(allocation)), subsets(sum(allocation))):
                inside = all(can_have[b] <= set(chosen) for b in buckets)
                wanted = inside and len(buckets) > sum(allocation[v] for v in chosen)
                self.same(is_too_small(allocation, forbidden, (chosen, buckets)), wanted)

    def test_the_empty_set(self):
        forbidden = ((1, 0), (1, 1), (1, 2))
        self.same(too_small((1, 1, 1), forbidden), ((), (1,)))
        self.same(first_possible((1, 1, 1), forbidden), None)
        self.same(is_too_small((1, 1, 1), forbidden, ((), (1,))), True)
        self.same(is_too_small((1, 1, 1), forbidden, ((), (0,))), False)
        self.same(is_too_small((1, 1, 1), forbidden, ((), ())), False)
        self.same(too_small((2,), ((0, 0), (1, 0))), ((), (0, 1)))

    def test_some_of_the_buckets_are_enough(self):
        self.same(too_small((1, 3, 2), TIGHT), ((0,), (0, 1, 2)))
        for value in (((0,), (0, 1)), ((0,), (0, 2)), ((0,), (1, 2)), ((0,), (0, 1, 2))):
            self.same(is_too_small((1, 3, 2), TIGHT, value), True)
        self.same(too_small((3, 2, 1), TIGHT), None)

    def test_values_of_every_kind(self):
        for value in NOTHING + (
                (), ((0,),), ((0,), (0, 1), ()), [(0,), (0, 1)], ([0], (0, 1)), ((0,), [0, 1]), (0, (0, 1)), ((0,), 0),
                ((0,), (1, 0)), ((0,), (0, 0)), ((0, 0), (0, 1)), ((3,), (0, 1)), ((-1,), (0, 1)), ((0,), (0, 6)),
                ((0,), (-1, 0)), ((0,), (0,)), ((), ()), ((), (0,)), ((1,), (0, 1)), ((1, 0), (0, 1)), ((False,), (0, 1)),
                ((0,), (0, True)), ((None,), (0, 1)), ((0,), (0, None)), ((0,), (0, "1")), (("0",), (0, 1)), ("0", "01"),
                ((0,), (0, 1, 3)), ((0,), (0, 1.0)), ((0, 1), (0, 1, 2, 3)), ((0,), ((0, 1),))):
            self.same(is_too_small((1, 3, 2), TIGHT, value), False)

    def test_renaming_changes_nothing(self):
        """Promise 120."""
        random = Random(120)
        for allocation, forbidden in CASES[::3]:
            k, n = len(allocation), sum(allocation)
            names, places = random.sample(range(k), k), random.sample(range(n), n)
            shares = tuple(allocation[names.index(v)] for v in range(k))
            pairs = tuple(sorted((places[b], names[v]) for b, v in forbidden))
            self.assertEqual(first_possible(shares, pairs) is None, first_possible(allocation, forbidden) is None)


class WrongArguments(Case):
    """Promises 2, 7 and 121."""

    def test_without_a_value(self):
        for function in (first_possible, too_small):
            self.checks_arguments(
                function, ((1, 1, 2), ((0, 2), (1, 2))), ("allocation", NO_ALLOCATION), ("forbidden", NO_FORBIDDEN))

    def test_with_a_value(self):
        for function in (is_possible, is_too_small):
            self.checks_arguments(
                lambda allocation, forbidden: function(allocation, forbidden, None), ((1, 1, 2), ((0, 2), (1, 2))),
                ("allocation", NO_ALLOCATION), ("forbidden", NO_FORBIDDEN))

    def test_bounds_are_let(self):
        everything = tuple(pairings(5, 20))
        self.same(too_small((4, 4, 4, 4, 4), everything), ((), tuple(range(20))))
        self.same(first_possible((4, 4, 4, 4, 4), everything[1:]), None)
        self.same(first_possible((0,), ()), ())
        self.same(is_possible((0, 0, 0, 0, 0), (), ()), True)
        self.same(is_too_small((0,), (), ((0,), ())), False)
        only = tuple((b, v) for b, v in everything if v != 4)
        self.same(first_possible((0, 0, 0, 0, 20), only), (4,) * 20)
        self.same(too_small((1, 0, 0, 0, 19), only), ((4,), tuple(range(20))))
