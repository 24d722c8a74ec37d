from itertools import product

from leastmoved.continuing import accepts_none, allowed_variants, continuation, why_none
from leastmoved.rules import needless_leave
from tests.base import NOTHING, Case
from tests.brute import all_allocations, all_assignments, assignments_of, is_steady, leaving, subsets
from tests.test_rules import CASES as ALL_RULES
from tests.test_rules import LISTS, NO_BUCKETS, NO_RULES, NO_VARIANTS, STEADY, THRIFTY, TWENTY, given_by

LEFT = (((1, 1, 0), (0, 1)), ((0, 1, 1), (1, 2)))


def cases():
    """Small rules, each with each allocation."""
    for variants, buckets, rule in ALL_RULES[::2]:
        for allocation in all_allocations(variants, buckets):
            yield variants, buckets, rule, allocation


CASES = list(cases())


def allowed_by_words(variants, buckets, rule, allocation):
    """The allowed variants of each bucket, as promise 85 tells them."""
    found = []
    for bucket in range(buckets):
        mine = []
        for x in range(variants):
            right = True
            for shares, row in rule:
                for w in range(1, variants):
                    if row[bucket] == w and shares[w] <= allocation[w] and x != w:
                        right = False
                    if x == w and shares[w] >= allocation[w] and row[bucket] != w:
                        right = False
            if right:
                mine.append(x)
        found.append(tuple(mine))
    return tuple(found)


def continuations(rule, allocation):
    """All assignments that continue the rule, as promise 84 tells them."""
    return [row for row in assignments_of(allocation) if is_steady(rule + ((allocation, row),))]


def first_shortage(can_have, allocation):
    for chosen in subsets(len(allocation)):
        buckets = tuple(b for b, mine in enumerate(can_have) if set(mine) <= set(chosen))
        if len(buckets) > sum(allocation[v] for v in chosen):
            return ("short", chosen, buckets)
    return None


def is_short(can_have, allocation, variants, buckets):
    inside = all(set(can_have[b]) <= set(variants) for b in buckets)
    return inside and len(buckets) > sum(allocation[v] for v in variants)


class Allowed(Case):
    """Promise 85."""

    def test_against_the_words(self):
        for variants, buckets, rule, allocation in CASES:
            wanted = allowed_by_words(variants, buckets, rule, allocation)
            self.same(allowed_variants(variants, buckets, rule, allocation), wanted)

    def test_exactly_the_allowed_ones_continue_a_steady_rule(self):
        for variants, buckets, rule, allocation in CASES:
            if is_steady(rule):
                can_have = allowed_variants(variants, buckets, rule, allocation)
                right = continuations(rule, allocation)
                for row in assignments_of(allocation):
                    self.assertEqual(row in right, all(v in mine for v, mine in zip(row, can_have)))

    def test_sizes(self):
        self.same(allowed_variants(3, 2, (), (1, 1, 0)), ((0, 1, 2), (0, 1, 2)))
        self.same(allowed_variants(1, 0, (), (0,)), ())
        self.same(allowed_variants(3, 2, LEFT, (0, 1, 1)), ((), ()))
        # More of variant 1 than in the first pair and less than in the second one.
        rule = tuple(given_by(((0, 1, 2), (3,)), shares, 4) for shares in ((1, 0), (3, 0)))
        self.same(allowed_variants(3, 4, rule, (1, 2, 1)), ((1,), (0, 1, 2), (0, 1, 2), (0, 2)))


class Continuation(Case):
    """Promises 84 and 87."""

    def test_first_of_all_that_continue(self):
        for variants, buckets, rule, allocation in CASES:
            right = continuations(rule, allocation)
            self.same(continuation(variants, buckets, rule, allocation), right[0] if right else None)

    def test_an_allocation_of_the_rule(self):
        for variants, buckets, rule in ALL_RULES[::3]:
            for allocation, row in rule:
                if is_steady(rule):
                    self.same(continuation(variants, buckets, rule, allocation), row)
                    self.same(why_none(variants, buckets, rule, allocation), None)
                else:
                    self.same(continuation(variants, buckets, rule, allocation), None)

    def test_great_sizes(self):
        for shares in ((2, 2, 1, 4), (5, 5, 5, 5), (0, 0, 0, 0), (1, 3, 2, 3)):
            allocation, _ = given_by(LISTS, shares, 20)
            row = continuation(5, 20, TWENTY, allocation)
            self.assertEqual(needless_leave(5, 20, TWENTY[:19] + ((allocation, row),)), None)
            self.same(why_none(5, 20, TWENTY, allocation), None)
        self.same(continuation(5, 20, (), (4, 4, 4, 4, 4)), tuple(sorted((0, 1, 2, 3, 4) * 4)))
        self.same(continuation(1, 0, (), (0,)), ())
        allocation = (0, 11, 3, 3, 3)
        row = continuation(5, 20, TWENTY, allocation)
        self.assertTrue(row is None or needless_leave(5, 20, TWENTY[:19] + ((allocation, row),)) is None)
        self.same(accepts_none(5, 20, TWENTY, allocation, why_none(5, 20, TWENTY, allocation)), row is None)


class WhyNone(Case):
    """Promise 86."""

    def test_first_evidence(self):
        for variants, buckets, rule, allocation in CASES:
            wanted = None
            if not is_steady(rule):
                wanted = ("needless",) + needless_leave(variants, buckets, rule)
            elif not continuations(rule, allocation):
                wanted = first_shortage(allowed_by_words(variants, buckets, rule, allocation), allocation)
            self.same(why_none(variants, buckets, rule, allocation), wanted)

    def test_either_an_assignment_or_evidence(self):
        for variants, buckets, rule, allocation in CASES:
            evidence = why_none(variants, buckets, rule, allocation)
            self.assertEqual(evidence is None, continuation(variants, buckets, rule, allocation) is not None)
            self.same(accepts_none(variants, buckets, rule, allocation, evidence), evidence is not None)

    def test_fewest_variants_and_all_their_buckets(self):
        self.same(why_none(3, 2, THRIFTY, (0, 1, 1)), ("short", (), (0,)))
        rule = tuple(given_by(((0, 1), (0, 1)), shares, 4) for shares in ((2, 0), (0, 2)))
        self.same(why_none(3, 4, rule, (0, 2, 2)), ("short", (), (0, 1)))
        self.same(why_none(3, 4, rule, (1, 1, 2)), ("short", (0,), (2, 3)))


class AcceptsNone(Case):
    """Promises 86 and 88."""

    def test_short_against_the_words(self):
        for variants, buckets, rule, allocation in CASES[::7]:
            can_have = allowed_by_words(variants, buckets, rule, allocation)
            for chosen, some in product(subsets(variants), subsets(buckets)):
                wanted = is_short(can_have, allocation, chosen, some)
                self.same(accepts_none(variants, buckets, rule, allocation, ("short", chosen, some)), wanted)

    def test_needless_against_the_words(self):
        for variants, buckets, rule, allocation in CASES[::5]:
            many = range(len(rule))
            for first, second, bucket in product(many, many, range(buckets)):
                wanted = leaving(rule[first], rule[second], bucket)
                self.same(accepts_none(variants, buckets, rule, allocation, ("needless", first, second, bucket)), wanted)

    def test_accepted_evidence_is_true(self):
        for variants, buckets, rule, allocation in CASES[::11]:
            if continuations(rule, allocation):
                for word, one, two in product(("short", "needless"), subsets(variants), subsets(buckets)):
                    self.same(accepts_none(variants, buckets, rule, allocation, (word, one, two)), False)

    def test_changed_shortages(self):
        arguments = (3, 2, THRIFTY, (0, 1, 1))
        for value in (("short", (), (0,)), ("short", (0,), (1,)), ("short", (0,), (0, 1)), ("short", (0,), (0,))):
            self.same(accepts_none(*arguments, value), True)
        for value in NOTHING + (
                (), ("short",), ("short", ()), ("short", (), ()), ("short", (), (0,), ()), ["short", (), (0,)],
                ("short", [], (0,)), ("short", (), [0]), ("short", (), 0), ("short", 0, (0,)), ("short", None, (0,)),
                ("short", (), None), ("short", (), (1,)), ("short", (), (0, 0)), ("short", (0, 0), (1,)), ("short", (0,), (1, 0)),
                ("short", (0,), (1, 1)), ("short", (3,), (0,)), ("short", (-1,), (0,)), ("short", (), (2,)), ("short", (), (-1,)),
                ("short", (1,), (0,)), ("short", (1, 0), (0, 1)), ("short", (0, 1), (0,)), ("short", (False,), (1,)),
                ("short", (0,), (True,)), ("short", (), (False,)), ("short", (None,), (0,)), ("short", (), (None,)),
                ("short", (), ("0",)), ("short", (), ((0,),)), ("Short", (), (0,)), ("needless", (), (0,)), ((), (0,)),
                (0, (), (0,)), (None, (), (0,)), ("short", "", (0,)), ("short", (), (0.0,)), (("short",), (), (0,)),
                ("short", ((),), (0,)), ("short", ([0],), (1,)), ("short", (0,), ([1],)), "short", "needless", ("needless",)):
            self.same(accepts_none(*arguments, value), False)

    def test_changed_leaves(self):
        arguments = (3, 2, LEFT, (1, 0, 1))
        for value in (("needless", 0, 1, 1), ("needless", 1, 0, 0)):
            self.same(accepts_none(*arguments, value), True)
        for value in (
                ("needless", 0, 1, 0), ("needless", 1, 0, 1), ("needless", 0, 0, 1), ("needless", 0, 1), ("needless", 0, 1, 1, 0),
                ("needless", 0, 2, 1), ("needless", 2, 0, 1), ("needless", 0, -1, 1), ("needless", -2, 1, 1), ("needless", -1, 0, 0),
                ("needless", 0, 1, -1), ("needless", 0, 1, 2), ("needless", False, 1, 1), ("needless", 0, True, 1),
                ("needless", 0, 1, True), ("needless", None, 1, 1), ("needless", 0, None, 1), ("needless", 0, 1, None),
                ("needless", (0,), 1, 1), ("needless", 0, [1], 1), ("needless", 0, 1, "1"), ["needless", 0, 1, 1], (0, 1, 1),
                ("short", 0, 1, 1), ("Needless", 0, 1, 1), ("needless", (0, 1, 1)), ("needless", 0.0, 1, 1)):
            self.same(accepts_none(*arguments, value), False)

    def test_short_also_for_a_rule_that_is_not_steady(self):
        self.same(allowed_variants(3, 2, LEFT, (0, 1, 1)), ((), ()))
        self.same(accepts_none(3, 2, LEFT, (0, 1, 1), ("short", (), (1,))), True)
        self.same(why_none(3, 2, LEFT, (0, 1, 1)), ("needless", 0, 1, 1))


class Example(Case):
    """Promise 89."""

    def test_both_variants_would_need_the_bucket_0(self):
        self.same(continuation(3, 2, THRIFTY, (0, 1, 1)), None)
        for row in all_assignments(3, 2):
            self.assertFalse(row in continuations(THRIFTY, (0, 1, 1)))


class WrongArguments(Case):
    """Promises 2, 7 and 88."""

    NOT_TWO = NOTHING + (
        (), (2,), (1, 1), (1, 0, 0), (2, 1, 0), (1, 1, 0, 0), (3, -1, 0), (1, True, 0), (2, 0, None), (2, False, 0), [1, 1, 0], "110")

    def test_all(self):
        def judged(variants, buckets, rule, allocation):
            return accepts_none(variants, buckets, rule, allocation, None)
        for function in (allowed_variants, continuation, why_none, judged):
            self.checks_arguments(
                function, (3, 2, STEADY, (2, 0, 0)), ("variants", NO_VARIANTS), ("buckets", NO_BUCKETS), ("rule", NO_RULES),
                ("allocation", self.NOT_TWO))
