from itertools import permutations, product

from leastmoved.rules import is_rule, leaves, lists_of_rule, missing, most_waste, needless_leave, serves_rule
from tests.base import NOTHING, Case
from tests.brute import all_allocations, all_assignments, is_steady, leaving, lost, moved, shares_of

STEADY = (((1, 1, 0), (1, 0)), ((1, 0, 1), (0, 2)), ((0, 1, 1), (1, 2)))
THRIFTY = (((1, 1, 0), (1, 0)), ((1, 0, 1), (2, 0)))
# Twenty allocations of twenty buckets to five variants, all of which the lists below serve.
LISTS = ((0, 1, 2, 3, 4), (5, 6, 7, 8, 9), (10, 11, 12, 13, 14), (15, 16, 17, 18, 19))

NO_VARIANTS = (0, 6, -1, None, True, False, "3", (3,), [3])
NO_BUCKETS = (-1, 21, None, True, False, "2", (2,), [2])


def given_by(lists, shares, buckets):
    """The pair of a rule that the lists give."""
    row = [0] * buckets
    for v, share in enumerate(shares, 1):
        for bucket in lists[v - 1][:share]:
            row[bucket] = v
    return ((buckets - sum(shares),) + tuple(shares), tuple(row))


TWENTY = tuple(given_by(LISTS, shares, 20) for shares in list(product((0, 2, 5), (1, 4), (0, 3), (5, 2)))[:20])

# Wrong as a rule for three variants and two buckets.
PAIR = ((1, 1, 0), (1, 0))
NO_RULES = NOTHING + (
    PAIR, [PAIR], (PAIR, PAIR), (PAIR, ((1, 1, 0), (0, 1))), (list(PAIR),), (PAIR + ((),),), (PAIR[:1],), (None,), ((),),
    (PAIR, None), ((PAIR[0], (1, 1)),), ((PAIR[0], (1,)),), ((PAIR[0], (1, 0, 0)),), ((PAIR[0], (1, 3)),), ((PAIR[0], [1, 0]),),
    (([1, 1, 0], (1, 0)),), (((1, 1), (1, 0)),), (((1, 1, 0, 0), (1, 0)),), (((2, 1, 0), (1, 0)),), (((1, 0, 0), (0, 0)),),
    ((PAIR[0], (True, 0)),), (((1, True, 0), (1, 0)),), ((PAIR[0], (1, False)),), ((PAIR[0], None),), ((None, (1, 0)),),
    ("ab",), ((PAIR[0], "10"),), ((PAIR[1], PAIR[0]),), ((PAIR[0], (1, -1)),), (((3, -1, 0), (1, 0)),), ((PAIR[0], (2, 0)),))


def pairs_of(variants, buckets):
    """All pairs of an allocation and an assignment of it."""
    return [(shares_of(row, variants), row) for row in all_assignments(variants, buckets)]


def rules(variants, buckets, many):
    """All rules with so many pairs, in every order."""
    for chosen in permutations(pairs_of(variants, buckets), many):
        if len({shares for shares, _ in chosen}) == many:
            yield chosen


def cases():
    """Small rules with their numbers of variants and buckets."""
    for variants, buckets, most in ((1, 2, 1), (2, 2, 3), (3, 1, 3), (3, 2, 2), (2, 3, 2), (4, 1, 3)):
        for many in range(most + 1):
            for rule in rules(variants, buckets, many):
                yield variants, buckets, rule
    for rule in list(rules(3, 2, 3))[::3] + list(rules(3, 2, 4))[::37]:
        yield 3, 2, rule
    for rule in list(rules(3, 3, 2))[::3]:
        yield 3, 3, rule
    for rule in list(rules(4, 2, 2)):
        yield 4, 2, rule
    for lists in list(product(permutations(range(3), 2), repeat=2))[::5]:
        for shares in permutations(((1, 0), (0, 1), (1, 1), (2, 1), (0, 0)), 3):
            if all(not set(lists[0][:a]) & set(lists[1][:b]) for a, b in shares):
                yield 3, 3, tuple(given_by(lists, each, 3) for each in shares)


CASES = list(cases())


class IsRule(Case):
    """Promise 78."""

    def test_right_ones(self):
        for variants, buckets, rule in CASES:
            self.same(is_rule(rule, variants, buckets), True)
        self.same(is_rule((), 5, 20), True)
        self.same(is_rule((), 1, 0), True)
        self.same(is_rule((((0,), ()),), 1, 0), True)
        self.assertEqual(len(TWENTY), 20)
        self.same(is_rule(TWENTY, 5, 20), True)

    def test_too_many_pairs(self):
        more = given_by(LISTS, (1, 1, 1, 1), 20)
        self.same(is_rule(TWENTY[:19] + (more,), 5, 20), True)
        self.same(is_rule(TWENTY + (more,), 5, 20), False)

    def test_one_thing_changed(self):
        for value in NO_RULES:
            self.same(is_rule(value, 3, 2), False)
        self.same(is_rule(STEADY, 3, 2), True)
        self.same(is_rule(STEADY, 3, 3), False)
        self.same(is_rule(STEADY, 4, 2), False)
        self.same(is_rule(STEADY, 2, 2), False)
        self.same(is_rule(TWENTY, 5, 19), False)
        for at in range(3):
            for other in STEADY[:at] + STEADY[at + 1:]:
                self.same(is_rule(STEADY[:at] + (other,) + STEADY[at + 1:], 3, 2), False)
                self.same(is_rule(STEADY[:at] + ((STEADY[at][0], other[1]),) + STEADY[at + 1:], 3, 2), False)
                self.same(is_rule(STEADY[:at] + ((other[0], STEADY[at][1]),) + STEADY[at + 1:], 3, 2), False)


class Missing(Case):
    """Promise 79."""

    def test_against_all_allocations(self):
        for variants, buckets, rule in CASES:
            known = [shares for shares, _ in rule]
            closed = True
            for shares in known:
                for other in all_allocations(variants, buckets):
                    if all(b <= a for a, b in zip(shares[1:], other[1:])) and other not in known:
                        closed = False
            wanted = None
            for index in reversed(range(len(known))):
                for v in reversed(range(1, variants)):
                    fewer = tuple(s + (w == 0) - (w == v) for w, s in enumerate(known[index]))
                    if known[index][v] >= 1 and fewer not in known:
                        wanted = (index, v, fewer)
            self.assertEqual(wanted is None, closed)
            self.same(missing(variants, buckets, rule), wanted)

    def test_closed_ones(self):
        whole = tuple(given_by(((0, 1), (2, 1)), shares, 3) for shares in ((0, 0), (1, 0), (0, 1), (1, 1), (2, 0), (2, 1)))
        self.same(missing(3, 3, whole), None)
        self.same(missing(3, 3, whole[::-1]), None)
        for at in range(5):
            self.assertIsNotNone(missing(3, 3, whole[:at] + whole[at + 1:]))
        self.same(missing(3, 3, whole[:5]), None)
        self.same(missing(3, 3, whole[:3] + whole[4:]), (4, 1, (1, 1, 1)))
        self.same(missing(3, 2, ()), None)
        self.same(missing(1, 2, (((2,), (0, 0)),)), None)
        self.same(missing(3, 2, STEADY), (0, 1, (2, 0, 0)))

    def test_great_sizes(self):
        steps = tuple(given_by(LISTS, (0, 0, 0, many), 20) for many in range(6))
        self.same(missing(5, 20, steps), None)
        self.same(missing(5, 20, steps[:3] + steps[4:]), (3, 4, (17, 0, 0, 0, 3)))


class Leaves(Case):
    """Promises 80 and 82."""

    def test_against_the_words(self):
        for variants, buckets, rule in CASES:
            found = []
            for first, second, bucket in product(range(len(rule)), range(len(rule)), range(buckets)):
                wanted = leaving(rule[first], rule[second], bucket)
                if buckets < 3 or first < second:
                    self.same(leaves(variants, buckets, rule, first, second, bucket), wanted)
                if wanted:
                    found.append((first, second, bucket))
            self.same(needless_leave(variants, buckets, rule), found[0] if found else None)
            self.assertEqual(not found, is_steady(rule))

    def test_either_order(self):
        rule = (((1, 1, 0), (0, 1)), ((0, 1, 1), (1, 2)))
        self.same(needless_leave(3, 2, rule), (0, 1, 1))
        self.same([leaves(3, 2, rule, 0, 1, b) for b in (0, 1)], [False, True])
        self.same([leaves(3, 2, rule, 1, 0, b) for b in (0, 1)], [True, False])
        self.same([leaves(3, 2, rule, k, k, b) for k in (0, 1) for b in (0, 1)], [False] * 4)
        # From the first pair to the second one nothing leaves needlessly; the other way the bucket 0 does.
        other = (((1, 2, 0), (1, 0, 1)), ((2, 1, 0), (0, 1, 0)))
        self.same(needless_leave(3, 3, other), (1, 0, 1))

    def test_control_is_left_freely(self):
        self.same(needless_leave(2, 2, (((1, 1), (0, 1)), ((0, 2), (1, 1)))), None)
        self.same(needless_leave(3, 2, (((1, 1, 0), (0, 1)), ((1, 0, 1), (2, 0)))), None)

    def test_great_sizes(self):
        self.same(needless_leave(5, 20, TWENTY), None)
        self.same(leaves(5, 20, TWENTY, 19, 0, 19), False)


class Lists(Case):
    """Promises 81 and 82."""

    def test_first_lists(self):
        for variants, buckets, rule in CASES:
            found = []
            for v in range(1, variants):
                length = max([0] + [shares[v] for shares, _ in rule])
                owned = [{b for b, w in enumerate(row) if w == v} for _, row in rule]
                right = [row for row in permutations(range(buckets), length) if all(set(row[:len(o)]) == o for o in owned)]
                found.append(right[0] if right else None)
            self.assertEqual(None not in found, is_steady(rule))
            self.same(lists_of_rule(variants, buckets, rule), None if None in found else tuple(found))

    def test_they_serve(self):
        for variants, buckets, rule in CASES[::3]:
            lists = lists_of_rule(variants, buckets, rule)
            if lists is not None:
                self.same(serves_rule(variants, buckets, rule, lists), True)
                rest = tuple(row + tuple(b for b in range(buckets) if b not in row) for row in lists)
                self.same(serves_rule(variants, buckets, rule, rest), True)

    def test_serves_against_the_words(self):
        rows = [row for many in range(4) for row in permutations(range(3), many)]
        for variants, buckets, rule in CASES[::29]:
            for lists in product([row for row in rows if max(row, default=0) < buckets], repeat=variants - 1):
                wanted = True
                for shares, row in rule:
                    for v, own in enumerate(lists, 1):
                        owned = {b for b, w in enumerate(row) if w == v}
                        wanted = wanted and len(own) >= shares[v] and set(own[:shares[v]]) == owned
                self.same(serves_rule(variants, buckets, rule, lists), wanted)

    def test_wrong_lists(self):
        for value in NOTHING + (
                (), ((0,),), ((0,), (1,), ()), [(0,), (1,)], ((0,), [1]), ((0,), None), ((0,), 1), ((0, 0), (1,)),
                ((0,), (1, 1)), ((0, 2), (1,)), ((0,), (1, -1)), ((False,), (1,)), ((0,), (True,)), ((0,), (1, None)),
                ((0,), ("1",)), ("0", "1"), (0, 1), ((), (1,)), ((0,), ()), ((1,), (0,)), ((1, 0), (1,)), ((0,), (0, 1)),
                ((0,), (1.0,)), ((0,), ((1,),))):
            self.same(serves_rule(3, 2, STEADY, value), False)
        for value in (((0,), (1,)), ((0, 1), (1,)), ((0,), (1, 0)), ((0, 1), (1, 0))):
            self.same(serves_rule(3, 2, STEADY, value), True)

    def test_sizes(self):
        self.same(lists_of_rule(5, 20, TWENTY), tuple(row[:most] for row, most in zip(LISTS, (5, 4, 3, 5))))
        self.same(serves_rule(5, 20, TWENTY, LISTS), True)
        self.same(serves_rule(5, 20, TWENTY, LISTS[1:] + LISTS[:1]), False)
        self.same(lists_of_rule(1, 2, (((2,), (0, 0)),)), ())
        self.same(serves_rule(1, 2, (((2,), (0, 0)),), ()), True)
        self.same(serves_rule(1, 2, (((2,), (0, 0)),), ((),)), False)
        self.same(lists_of_rule(4, 3, ()), ((), (), ()))
        self.same(serves_rule(3, 2, (), ((1, 0), ())), True)
        self.same(serves_rule(3, 2, (), ((2,), ())), False)


class Waste(Case):
    """Promise 83."""

    def test_against_the_words(self):
        for variants, buckets, rule in CASES:
            found = []
            for first in range(len(rule)):
                for second in range(first + 1, len(rule)):
                    change = moved(rule[first][1], rule[second][1])
                    found.append((first, second, change, lost(rule[first][0], rule[second][0])))
            most = max([row[2] - row[3] for row in found], default=None)
            wanted = [row for row in found if row[2] - row[3] == most]
            self.same(most_waste(variants, buckets, rule), wanted[0] if wanted else None)
            if is_steady(rule):
                for _, _, change, transfer in found:
                    self.assertLessEqual(change, 2 * transfer)
                    self.assertTrue(variants > 2 or change == transfer)
            if not most:
                self.assertTrue(is_steady(rule))

    def test_first_of_the_greatest(self):
        self.same(most_waste(3, 2, STEADY), (0, 1, 2, 1))
        self.same(most_waste(3, 2, STEADY[::-1]), (1, 2, 2, 1))
        self.same(most_waste(3, 2, STEADY[:1]), None)
        self.same(most_waste(3, 2, ()), None)
        self.same(most_waste(3, 2, (((2, 0, 0), (0, 0)),) + STEADY), (1, 2, 2, 1))
        four = tuple(given_by(((0, 1), (2, 1)), shares, 3) for shares in ((0, 0), (1, 0), (0, 1), (1, 1)))
        self.same(most_waste(3, 3, four), (1, 2, 2, 1))
        self.same(most_waste(3, 3, (four[0], four[1], four[3])), (0, 1, 1, 1))


class Example(Case):
    """Promise 89."""

    def test_the_first_rule(self):
        self.same(needless_leave(3, 2, STEADY), None)
        self.same((moved(STEADY[0][1], STEADY[1][1]), lost(STEADY[0][0], STEADY[1][0])), (2, 1))

    def test_the_second_rule(self):
        first, second, change, transfer = most_waste(3, 2, THRIFTY)
        self.same((first, second, change - transfer), (0, 1, 0))


class WrongArguments(Case):
    """Promises 2, 7 and 88."""

    def test_is_rule(self):
        self.checks_arguments(
            lambda variants, buckets: is_rule(STEADY, variants, buckets), (3, 2),
            ("variants", NO_VARIANTS), ("buckets", NO_BUCKETS))

    def test_rule(self):
        for function in (missing, needless_leave, lists_of_rule, most_waste):
            self.checks_arguments(
                function, (3, 2, STEADY), ("variants", NO_VARIANTS), ("buckets", NO_BUCKETS), ("rule", NO_RULES))
            self.refused("rule", function, 3, 2, STEADY + STEADY[:1])
            self.refused("rule", function, 5, 20, TWENTY + (given_by(LISTS, (1, 1, 1, 1), 20),))

    def test_leaves(self):
        index = (3, -1, None, True, False, "0", (0,), [0])
        bucket = (2, -1, 20, None, True, False, "0", (0,), [0])
        self.checks_arguments(
            leaves, (3, 2, STEADY, 0, 1, 0), ("variants", NO_VARIANTS), ("buckets", NO_BUCKETS), ("rule", NO_RULES),
            ("first", index), ("second", index), ("bucket", bucket))
        self.refused("first", leaves, 3, 2, (), 0, 0, 0)
        self.refused("bucket", leaves, 1, 0, (((0,), ()),), 0, 0, 0)

    def test_serves_rule(self):
        self.checks_arguments(
            lambda variants, buckets, rule: serves_rule(variants, buckets, rule, None), (3, 2, STEADY),
            ("variants", NO_VARIANTS), ("buckets", NO_BUCKETS), ("rule", NO_RULES))
