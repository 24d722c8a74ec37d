from fractions import Fraction
from itertools import product
from random import Random

from leastmoved.allocations import apportioned
from leastmoved.reading import read_assignment, read_shares
from leastmoved.writing import allocation_of_shares, assignment_text, is_shares, shares_text
from tests.base import NOTHING, Case
from tests.brute import all_allocations, all_assignments

NAMES = ("a", "b_1", "abcdefghijkl", "z9", "x_")
SHARES = (("control", (1, 2)), ("blue", (121, 400)), ("red", (79, 400)))
NO_BUCKETS = (-1, 21, None, True, False, "4", (4,), [4], 4.0)
NO_SHARES = NOTHING + (
    (), ("a", (1, 1)), [("a", (1, 1))], (["a", (1, 1)],), (("a", [1, 1]),), (("a",),), (("a", (1, 1), 0),), (("a", 1),),
    (("a", (1,)),), (("a", (1, 1, 1)),), (("a", None),), (None,), ((),), ((1, (1, 1)),), ((None, (1, 1)),), ((b"a", (1, 1)),),
    (("", (1, 1)),), (("A", (1, 1)),), (("1a", (1, 1)),), (("_a", (1, 1)),), (("a b", (1, 1)),), ((" a", (1, 1)),), (("a ", (1, 1)),),
    (("a" * 13, (1, 1)),), (("aB", (1, 1)),), (("a-b", (1, 1)),), (("\xe9", (1, 1)),), (("a\xe9", (1, 1)),), (("a\n", (1, 1)),),
    (("a\u0663", (1, 1)),), (("a\xb2", (1, 1)),), ((("a",), (1, 1)),),
    (("a", (2, 2)),), (("a", (100, 100)),), (("a", (0, 0)),), (("a", (-1, -1)),), (("a", (True, 1)),), (("a", (1, True)),),
    (("a", (1.0, 1)),), (("a", ("1", 1)),), (("a", (1, None)),), (("a", "11"),), (("a", Fraction(1)),),
    (("a", (1, 2)),), (("a", (0, 1)),), (("a", (1, 1)), ("b", (1, 2))), (("a", (1, 2)), ("b", (1, 3))), (("a", (1, 2)), ("b", (2, 3))),
    (("a", (1, 2)), ("b", (2, 4))), (("a", (1, 1)), ("b", (0, 2))), (("a", (1, 1)), ("b", (0, 0))), (("a", (1, 1)), ("b", (1, 0))),
    (("a", (1, 1)), ("b", (0, -1))), (("a", (1, 2)), ("b", (-1, -2))), (("a", (3, 2)), ("b", (-1, 2))), (("a", (2, 1)), ("b", (-1, 1))),
    (("a", (1, 2)), ("a", (1, 2))), (("a", (1, 1)), ("a", (0, 1))), (("a", (1, 2)), None), (("a", (1, 2)), ("b", (1, 2)), ()),
    (("a", (1, 10001)), ("b", (10000, 10001))), (("a", (9999, 10000)), ("b", (1, 10001))),
    tuple(zip("abcdef", ((1, 6),) * 6)), tuple(zip("abcdef", ((1, 5),) * 5 + ((0, 1),))))


def all_shares(variants, divisors):
    """All shares of whole parts by one of these divisors."""
    for divisor in divisors:
        for parts in all_allocations(variants, divisor):
            yield named([Fraction(part, divisor) for part in parts])


def named(fractions):
    return tuple((name, (each.numerator, each.denominator)) for name, each in zip(NAMES, fractions))


def cases():
    """Shares with small divisors, with random ones, and all pairs of ten-thousandths."""
    for variants, divisors in ((1, (1,)), (2, (1, 2, 3, 7, 100)), (3, (1, 3, 8, 12)), (4, (4, 6)), (5, (5, 6))):
        yield from all_shares(variants, divisors)
    random = Random(138)
    for _ in range(300):
        divisor = random.choice((10000, 9999, 9973, 6400, 1250, 100, 3000, random.randint(1, 10000)))
        cuts = sorted(random.randint(0, divisor) for _ in range(random.randint(0, 4)))
        yield named([Fraction(b - a, divisor) for a, b in zip([0] + cuts, cuts + [divisor])])
    for many in range(10001):
        yield named([Fraction(many, 10000), Fraction(10000 - many, 10000)])


CASES = list(cases())


class IsShares(Case):
    """Promise 138."""

    def test_right_ones(self):
        for shares in CASES[::5]:
            self.same(is_shares(shares), True)
        self.same(is_shares(SHARES), True)
        self.same(is_shares((("a", (1, 1)),)), True)
        self.same(is_shares((("a", (0, 1)), ("b", (1, 1)))), True)
        self.same(is_shares((("a", (1, 10000)), ("b", (9999, 10000)))), True)
        self.same(is_shares(tuple(zip(NAMES, ((1, 5),) * 5))), True)

    def test_values_of_every_kind(self):
        for value in NO_SHARES:
            self.same(is_shares(value), False)

    def test_the_total_is_exact(self):
        for n in range(3330, 3336):
            self.same(is_shares((("a", (1, 3)), ("b", (1, 3)), ("c", (n, 10000)))), False)
        self.same(is_shares((("a", (9999, 10000)), ("b", (1, 9999)))), False)


def fraction_of(share):
    return Fraction(*share)


def share_told(share):
    """The text of a share, as promise 141 tells it."""
    many = fraction_of(share) * 10000
    if many.denominator > 1:
        return f"{share[0]}/{share[1]}"
    whole, rest = divmod(many.numerator, 100)
    digits = f"{rest:02}"
    while digits.endswith("0"):
        digits = digits[:-1]
    return f"{whole}.{digits}" if digits else str(whole)


class SharesText(Case):
    """Promises 141 and 143."""

    def test_against_the_words(self):
        for shares in CASES:
            wanted = ", ".join(name + " " + share_told(share) for name, share in shares)
            self.same(shares_text(shares), wanted)

    def test_read_again(self):
        for shares in CASES:
            self.same(read_shares(shares_text(shares)), shares)

    def test_as_few_digits_as_possible(self):
        for share, written in (
                ((0, 1), "0"), ((1, 1), "100"), ((1, 2), "50"), ((1, 10), "10"), ((1, 100), "1"), ((1, 1000), "0.1"),
                ((1, 10000), "0.01"), ((3, 2000), "0.15"), ((1, 8), "12.5"), ((1, 16), "6.25"), ((1, 32), "1/32"),
                ((1, 3), "1/3"), ((9999, 10000), "99.99"), ((999, 1000), "99.9"), ((1, 9999), "1/9999"), ((101, 10000), "1.01"),
                ((11, 100), "11"), ((1, 20), "5"), ((1, 2000), "0.05")):
            n, d = share
            rest = Fraction(d - n, d)
            self.same(
                shares_text((("a", share), ("b", (rest.numerator, rest.denominator)))).split(",")[0], "a " + written)

    def test_examples(self):
        self.same(shares_text(SHARES), "control 50, blue 30.25, red 19.75")
        self.same(shares_text((("a", (1, 3)), ("b", (2, 3)))), "a 1/3, b 2/3")


class AssignmentText(Case):
    """Promises 142 and 143."""

    def assignments(self):
        for variants, most in ((1, 20), (2, 7), (3, 5), (5, 3)):
            for buckets in range(most + 1):
                yield from all_assignments(variants, buckets)
        random = Random(142)
        for _ in range(200):
            row = []
            while len(row) < 20:
                row += [random.randrange(5)] * random.randint(1, 12)
            yield tuple(row[:random.randint(10, 20)])

    def test_as_few_runs_as_possible(self):
        for row in self.assignments():
            text = assignment_text(row)
            pieces = text.split(" ") if row else []
            runs = [(int(piece.split("*")[0]), int((piece + "*1").split("*")[1])) for piece in pieces]
            self.same(tuple(v for v, many in runs for _ in range(many)), row)
            self.assertTrue(all(one[0] != two[0] for one, two in zip(runs, runs[1:])))
            self.same(pieces, [f"{v}*{many}" if many > 1 else f"{v}" for v, many in runs])

    def test_read_again(self):
        for row in self.assignments():
            for variants in (max(row, default=0) + 1, 5):
                self.same(read_assignment(assignment_text(row), variants), row)

    def test_no_buckets(self):
        self.same(assignment_text(()), "")
        self.same(read_assignment("", 1), ())

    def test_longest(self):
        self.same(assignment_text((4,) * 20), "4*20")
        self.same(assignment_text((0, 1) * 10), " ".join(["0 1"] * 10))
        self.same(assignment_text((0, 0, 0, 2, 1, 1)), "0*3 2 1*2")
        self.same(assignment_text((1, 1, 0, 1)), "1*2 0 1")

    def test_written_again_with_as_few_runs(self):
        for text, written in (("0 0 0 1", "0*3 1"), ("0*2 0*1 01", "0*3 1"), ("  2*001 2 ", "2*2"), ("", "")):
            self.same(assignment_text(read_assignment(text, 3)), written)


class Allocations(Case):
    """Promise 144."""

    def distance(self, shares, buckets, allocation):
        return sum(abs(many - buckets * fraction_of(share)) for many, (_, share) in zip(allocation, shares))

    def test_against_all_allocations(self):
        for shares in CASES[:2000:7] + CASES[2000::400]:
            for buckets in (0, 1, 2, 4):
                got = allocation_of_shares(shares, buckets)
                everything = all_allocations(len(shares), buckets)
                self.assertIn(got, everything)
                least = min(self.distance(shares, buckets, each) for each in everything)
                self.assertEqual(self.distance(shares, buckets, got), least)

    def test_by_largest_rests(self):
        for shares in CASES[::3]:
            for buckets in (3, 10, 20):
                quotas = [buckets * fraction_of(share) for _, share in shares]
                wanted = [quota.numerator // quota.denominator for quota in quotas]
                order = sorted(range(len(quotas)), key=lambda v: (wanted[v] - quotas[v], v))
                for v in order[:buckets - sum(wanted)]:
                    wanted[v] += 1
                self.same(allocation_of_shares(shares, buckets), tuple(wanted))

    def test_equal_rests(self):
        thirds = (("c", (1, 3)), ("b", (1, 3)), ("a", (1, 3)))
        self.same([allocation_of_shares(thirds, n) for n in (1, 2, 4, 20)], [(1, 0, 0), (1, 1, 0), (2, 1, 1), (7, 7, 6)])
        fifths = tuple(zip("edcba", ((1, 5),) * 5))
        self.same(allocation_of_shares(fifths, 18), (4, 4, 4, 3, 3))
        self.same(allocation_of_shares((("a", (1, 2)), ("b", (1, 4)), ("c", (1, 4))), 2), (1, 1, 0))

    def test_as_by_weights(self):
        for shares in all_shares(4, (12,)):
            weights = tuple(int(fraction_of(share) * 12) for _, share in shares)
            for buckets in (0, 5, 20):
                self.same(allocation_of_shares(shares, buckets), apportioned(weights, buckets))

    def test_great_common_divisors(self):
        # As weights of one and the same part these would be far beyond what weights may be.
        first, second = Fraction(3000, 9998), Fraction(3000, 9996)
        parts = [first, Fraction(1, 2) - first, second, Fraction(1, 2) - second]
        shares = named(parts)
        self.same(is_shares(shares), True)
        self.same(allocation_of_shares(shares, 20), (6, 4, 6, 4))
        self.same(allocation_of_shares(shares, 5), (1, 1, 2, 1))
        self.same(allocation_of_shares(shares, 1), (0, 0, 1, 0))

    def test_example(self):
        self.same(allocation_of_shares(SHARES, 10), (5, 3, 2))
        self.same(allocation_of_shares((("a", (1, 1)),), 20), (20,))


class WrongArguments(Case):
    """Promises 7 and 145."""

    def test_shares(self):
        self.checks_arguments(shares_text, (SHARES,), ("shares", NO_SHARES))
        self.checks_arguments(allocation_of_shares, (SHARES, 10), ("shares", NO_SHARES), ("buckets", NO_BUCKETS))

    def test_assignment(self):
        wrong = NOTHING + (
            (5,), (0, -1), (0, True), (False,), (0, None), (0, 1.0), [0, 1], "01", ((0, 1),), (0,) * 21, ("0",))
        self.checks_arguments(assignment_text, ((0, 1),), ("assignment", wrong))

    def test_bounds_are_let(self):
        for buckets, shares in product((0, 20), ((("a", (1, 1)),), SHARES)):
            self.assertEqual(sum(allocation_of_shares(shares, buckets)), buckets)
