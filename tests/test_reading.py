from fractions import Fraction
from itertools import product

from leastmoved.reading import next_tokens, read_assignment, read_shares
from leastmoved.scanning import scan
from tests.base import NOTHING
from tests.grammar import SHORT_ROWS, can_follow, problem_of, scanned
from tests.test_scanning import NO_TEXT, ScanCase

TEXTS = {"a name": "a", "a number": "1", "the end": "#"}
NO_VARIANTS = (0, 6, -1, None, True, False, "3", (3,), [3], 3.0)
NO_KIND = NOTHING + ("Shares", "share", "assignments", "shares ", ("shares",), ["shares"], "shares\n")
FIVE_VARIANTS = "there are at most 5 variants"
NAME_STANDS = "this name stands already"
TWO_DIGITS = "at most two digits stand behind the point"
DENOMINATOR = "a denominator is from 1 to 10000"
WHOLE = "a share is at most the whole"
TOTAL = "the total is not the whole"
NO_VARIANT = "there is no such variant"
ONE_BUCKET = "a run has at least one bucket"
TWENTY = "there are at most 20 buckets"


def joined(words):
    """A text of these words, with spaces between the tokens."""
    return " ".join(TEXTS.get(word, word.strip('"')) for word in words)


def beginnings(kind):
    """All beginnings of texts of the grammar with up to three shares or runs, without the end."""
    return sorted({row[:many] for row in SHORT_ROWS[kind] for many in range(len(row))})


class NextTokens(ScanCase):
    """Promises 136 and 137."""

    def test_every_place_of_both_grammars(self):
        for kind in SHORT_ROWS:
            for row in beginnings(kind):
                self.same(next_tokens(joined(row), kind), can_follow(kind, row))
                self.same(next_tokens("  " + joined(row) + "  ", kind), can_follow(kind, row))

    def test_the_places_as_they_stand(self):
        for text, kind, wanted in (
                ("", "shares", ["a name"]), ("a", "shares", ["a number"]), ("a 1", "shares", ['","', '"."', '"/"', "the end"]),
                ("a 1.", "shares", ["a number"]), ("a 1/", "shares", ["a number"]), ("a 1.2", "shares", ['","', "the end"]),
                ("a 1/2", "shares", ['","', "the end"]), ("a 1,", "shares", ["a name"]), ("a 1,b", "shares", ["a number"]),
                ("", "assignment", ["a number", "the end"]), ("1", "assignment", ["a number", '"*"', "the end"]),
                ("1*", "assignment", ["a number"]), ("1*2", "assignment", ["a number", "the end"]),
                ("1*2 3", "assignment", ["a number", '"*"', "the end"]), ("blue 30", "shares", ['","', '"."', '"/"', "the end"]),
                ("0*3 2", "assignment", ["a number", '"*"', "the end"])):
            self.same(next_tokens(text, kind), wanted)

    def test_tokens_that_cannot_come(self):
        for kind in SHORT_ROWS:
            for row in beginnings(kind):
                for word in ("a name", "a number", '","', '"."', '"*"', '"/"'):
                    if word in can_follow(kind, row):
                        continue
                    text = joined(row + (word,))
                    column, words = problem_of(kind, scan(text)[:-1])
                    self.problem(column, words, next_tokens, text, kind)
                    self.problem(column, words, next_tokens, text + " a 1 , *", kind)

    def test_words_do_not_depend_on_what_is_meant(self):
        """Only the grammar counts, not the problems of promises 139 and 140."""
        self.same(next_tokens("a 1, a 999999, a 1, a 1, a 1, a 1/0", "shares"), ['","', "the end"])
        self.same(next_tokens("999999*0", "assignment"), ["a number", "the end"])

    def test_a_new_list(self):
        self.fresh_list(next_tokens, "a 1", "shares")
        self.fresh_list(next_tokens, "", "assignment")


class Grammar(ScanCase):
    """Promises 135 to 137, for both readers."""

    READERS = {"shares": read_shares, "assignment": lambda text: read_assignment(text, 5)}

    def test_all_rows_of_tokens(self):
        words = ("a name", "a number", '","', '"."', '"*"', '"/"')
        for kind, read in self.READERS.items():
            for many in range(4):
                for row in product(words, repeat=many):
                    text = joined(row)
                    found = problem_of(kind, scanned(text))
                    if found is not None:
                        self.problem(*found, read, text)

    def test_one_token_wrong_in_long_texts(self):
        for kind, read in self.READERS.items():
            for row in SHORT_ROWS[kind]:
                for at, word in product(range(len(row) - 1), ("a name", "a number", '","', '"."', '"*"', '"/"')):
                    text = joined(row[:at] + (word,) + row[at + 1:-1])
                    found = problem_of(kind, scanned(text)[:at + 1])
                    if found is not None:
                        self.problem(*found, read, text)

    def test_the_end_cannot_come(self):
        for text, words in (
                ("", "expected a name"), ("  ", "expected a name"), ("a", "expected a number"), ("a 1,", "expected a name"),
                ("a 1. ", "expected a number"), ("a 1/", "expected a number"), ("a 50, b", "expected a number")):
            self.problem(len(text) + 1, words, read_shares, text)
        self.problem(3, "expected a number", read_assignment, "1*", 5)
        self.same(read_assignment("", 5), ())

    def test_one_two_and_several_alternatives(self):
        self.problem(1, "expected a name", read_shares, "1")
        self.problem(6, 'expected "," or the end', read_shares, "a 1.5.5")
        self.problem(4, 'expected ",", ".", "/" or the end', read_shares, "a 1*5")
        self.problem(1, "expected a number or the end", read_assignment, "a", 5)
        self.problem(2, 'expected a number, "*" or the end', read_assignment, "1,", 5)
        self.problem(3, "expected a number", read_assignment, "1**2", 5)

    def test_problems_of_tokens_come_first(self):
        self.problem(6, "no token begins here", read_shares, "1 , ,#")
        self.problem(3, "a number has at most 6 digits", read_shares, "1 0000000")
        self.problem(5, "a name has at most 12 characters", read_assignment, "* * " + "a" * 13, 3)
        self.problem(3, "no token begins here", next_tokens, "1 A", "shares")
        self.problem(3, "no token begins here", next_tokens, "9*A", "assignment")
        self.problem(8, "no token begins here", read_shares, "a 200, A")

    def test_grammar_comes_before_what_is_meant(self):
        self.problem(9, "expected a number", read_shares, "a 200, b")
        self.problem(10, "expected a number", read_shares, "a 1, a 1.")
        self.problem(6, 'expected a number, "*" or the end', read_assignment, "9*0 1,", 2)


class Shares(ScanCase):
    """Promises 138 and 139."""

    def test_hundredths(self):
        for written, share in (
                ("0", (0, 1)), ("100", (1, 1)), ("50", (1, 2)), ("1", (1, 100)), ("30.25", (121, 400)), ("0.5", (1, 200)),
                ("0.05", (1, 2000)), ("0.01", (1, 10000)), ("99.99", (9999, 10000)), ("33.3", (333, 1000)),
                ("00050", (1, 2)), ("50.0", (1, 2)), ("50.00", (1, 2)), ("000000.10", (1, 1000)), ("100.00", (1, 1))):
            self.check_share(written, share)

    def test_all_hundredths(self):
        for many in range(10001):
            whole, rest = many // 100, many % 100
            wanted = Fraction(many, 10000)
            other = Fraction(10000 - many, 10000)
            text = f"a {whole}.{rest:02},b {10000 - many}/10000"
            pairs = [(each.numerator, each.denominator) for each in (wanted, other)]
            self.same(read_shares(text), (("a", pairs[0]), ("b", pairs[1])))

    def test_quotients(self):
        for written, share in (
                ("1/2", (1, 2)), ("0/7", (0, 1)), ("7/7", (1, 1)), ("2/4", (1, 2)), ("9999/10000", (9999, 10000)),
                ("1/10000", (1, 10000)), ("00001/0003", (1, 3)), ("79/400", (79, 400)), ("10000/10000", (1, 1)),
                ("4999/9999", (4999, 9999)), ("0/1", (0, 1)), ("000000/000001", (0, 1))):
            self.check_share(written, share)

    def check_share(self, written, share):
        n, d = share
        self.same(read_shares(f"a {written}, b {d - n}/{d}")[0], ("a", share))
        self.same(read_shares(f"b {d - n}/{d},a {written}")[1], ("a", share))
        self.same(read_shares(f" b   {d - n} / {d} ,a{' ' * 3}{' . '.join(written.split('.'))} ")[1], ("a", share))

    def test_the_total(self):
        self.same(read_shares("a 100"), (("a", (1, 1)),))
        self.same(read_shares("a 1/3, b 1/3, c 1/3"), (("a", (1, 3)), ("b", (1, 3)), ("c", (1, 3))))
        self.same(read_shares("a 0, b 100, c 0/3"), (("a", (0, 1)), ("b", (1, 1)), ("c", (0, 1))))
        for text in ("a 99", "a 50, b 60", "a 1/3, b 1/3, c 33.33", "a 0", "a 99.99", "a 100, b 0.01", "a 1/3,b 1/3,c 1/3,d 1/10000"):
            self.problem(len(text) + 1, TOTAL, read_shares, text)
            self.problem(len(text) + 4, TOTAL, read_shares, text + "   ")
        # The least common divisor of these is great.
        self.problem(50, TOTAL, read_shares, "a 1/9973,b 1/9967,c 1/9949,d 1/9941,e 9990/10000 ")

    def test_five_variants(self):
        five = "a 20, b 20, c 20, d 20, e 20"
        self.same(read_shares(five), tuple((name, (1, 5)) for name in "abcde"))
        self.problem(31, FIVE_VARIANTS, read_shares, five + ", f 0")
        self.problem(31, FIVE_VARIANTS, read_shares, five + ", a 0")
        self.problem(31, FIVE_VARIANTS, read_shares, five + ", f 200, f 1/0")

    def test_names(self):
        self.same(read_shares("a_1 50,a_2 50"), (("a_1", (1, 2)), ("a_2", (1, 2))))
        self.same(read_shares("abcdefghij_2 100"), (("abcdefghij_2", (1, 1)),))
        self.problem(7, NAME_STANDS, read_shares, "a 50, a 50")
        self.problem(13, NAME_STANDS, read_shares, "a 50, b 25, b 1/0")
        self.same(read_shares("a 50, aa 50")[1], ("aa", (1, 2)))

    def test_digits_behind_the_point(self):
        for written in ("50.000", "50.123", "0.0000", "200.000", "999999.999999"):
            column = 4 + written.index(".")
            self.problem(column, TWO_DIGITS, read_shares, "a " + written)
            self.problem(column, TWO_DIGITS, read_shares, "a " + written + ", a 1")

    def test_denominators(self):
        for written in ("1/0", "0/0", "1/10001", "999999/999999", "5/00000", "3/010001"):
            column = 4 + written.index("/")
            self.problem(column, DENOMINATOR, read_shares, "a " + written)
            self.problem(column + 6, DENOMINATOR, read_shares, "b 100,a " + written + ",b 1")

    def test_more_than_the_whole(self):
        for written in ("101", "100.01", "999999", "100.1", "2/1", "10000/9999", "999999/10000", "000101"):
            self.problem(3, WHOLE, read_shares, "a " + written)
            self.problem(9, WHOLE, read_shares, "b 100,a " + written + ",b 1")

    def test_the_first_problem_counts(self):
        parts = {
            "{} 101": WHOLE, "{} 1.234": TWO_DIGITS, "{} 3/0": DENOMINATOR, "{} 200.001": TWO_DIGITS,
            "{} 200/10001": DENOMINATOR, "{} 10": ""}
        for chosen in product(parts, repeat=2):
            for names in ("ab", "aa"):
                rows = [shape.format(name) for shape, name in zip(chosen, names)]
                text = ", ".join(rows)
                self.problem(*self.first_problem(rows, text, names, [parts[shape] for shape in chosen]), read_shares, text)

    def first_problem(self, rows, text, names, problems):
        begin = 0
        for number, (row, problem) in enumerate(zip(rows, problems)):
            if names[number] in names[:number]:
                return begin + 1, NAME_STANDS
            if problem == WHOLE:
                return begin + 3, WHOLE
            if problem:
                sign = "." if problem == TWO_DIGITS else "/"
                return begin + row.index(sign) + 2, problem
            begin += len(row) + 2
        return len(text) + 1, TOTAL

    def test_example(self):
        wanted = (("control", (1, 2)), ("blue", (121, 400)), ("red", (79, 400)))
        self.same(read_shares("control 50, blue 30.25,red 79/400"), wanted)
        self.problem(11, TOTAL, read_shares, "a 50, b 60")


class Assignments(ScanCase):
    """Promises 140 and 143."""

    def test_all_small_texts(self):
        pieces = ("0", "1", "2", "0*2", "1*1", "2*3", "00*02", "1*01")
        buckets = ((0,), (1,), (2,), (0, 0), (1,), (2, 2, 2), (0, 0), (1,))
        for many in range(4):
            for chosen in product(range(len(pieces)), repeat=many):
                text = " ".join(pieces[k] for k in chosen)
                wanted = tuple(variant for k in chosen for variant in buckets[k])
                self.same(read_assignment(text, 3), wanted)
                self.same(read_assignment(" " + text.replace("*", " * ").replace(" ", "   "), 3), wanted)

    def test_needless_zeros(self):
        self.same(read_assignment("000001*000003 02", 3), (1, 1, 1, 2))
        self.same(read_assignment("000000", 1), (0,))

    def test_no_such_variant(self):
        for variants in range(1, 6):
            wanted = tuple(range(variants))
            self.same(read_assignment(" ".join(str(v) for v in wanted), variants), wanted)
            self.problem(5, NO_VARIANT, read_assignment, f"0 0 {variants}", variants)
            self.problem(5, NO_VARIANT, read_assignment, f"0*1 {variants}*0", variants)
            self.problem(1, NO_VARIANT, read_assignment, f"00{variants}*30 9", variants)
        self.problem(1, NO_VARIANT, read_assignment, "999999", 5)

    def test_no_bucket(self):
        self.problem(3, ONE_BUCKET, read_assignment, "0*0", 1)
        self.problem(5, ONE_BUCKET, read_assignment, "1 0*000000 7", 2)
        self.problem(8, ONE_BUCKET, read_assignment, "0*20 1*0", 2)

    def test_more_than_twenty(self):
        self.same(read_assignment("0*20", 1), (0,) * 20)
        self.same(read_assignment("0*19 1", 2), (0,) * 19 + (1,))
        self.same(read_assignment("1 " * 20, 2), (1,) * 20)
        self.problem(1, TWENTY, read_assignment, "0*21", 1)
        self.problem(1, TWENTY, read_assignment, "0*999999 7", 1)
        self.problem(6, TWENTY, read_assignment, "0*19 1*2 5", 2)
        self.problem(6, TWENTY, read_assignment, "0*20 1", 2)
        self.problem(41, TWENTY, read_assignment, "1 " * 21 + "9", 2)
        self.problem(6, NO_VARIANT, read_assignment, "0*20 2*5", 2)

    def test_the_first_problem_counts(self):
        parts = {"0*3": None, "9": (0, NO_VARIANT), "9*0": (0, NO_VARIANT), "1*0": (2, ONE_BUCKET), "0*21": (0, TWENTY)}
        for chosen in product(parts, repeat=3):
            text, begin, found = " ".join(chosen), 1, None
            for piece in chosen:
                if parts[piece] is not None and found is None:
                    found = (begin + parts[piece][0], parts[piece][1])
                begin += len(piece) + 1
            if found is None:
                self.same(read_assignment(text, 2), (0,) * 9)
            else:
                self.problem(*found, read_assignment, text, 2)

    def test_runs_that_are_cut(self):
        """Texts are read as the same assignment exactly if their repeated runs give the same rows."""
        texts = ("0*3 1", "0 0 0 1", "0*2 0 1", "0 0*2 1*1", "0*3  1", "0*3 2", "0*4 1", "1 0*3", "0*3")
        rows = [read_assignment(text, 3) for text in texts]
        self.assertEqual(len(set(rows[:5])), 1)
        self.assertEqual(len(set(rows)), 5)

    def test_spaces_decide_only_where_tokens_change(self):
        self.same(read_assignment("1 2", 3), (1, 2))
        self.problem(1, NO_VARIANT, read_assignment, "12", 3)
        self.same(read_assignment("1*1 2", 3), (1, 2))
        self.same(read_assignment("1*12", 3), (1,) * 12)

    def test_example(self):
        self.same(read_assignment("0*3 2 1*2", 3), (0, 0, 0, 2, 1, 1))


class Blanks(ScanCase):
    """Promise 143."""

    def test_they_change_nothing_but_columns(self):
        for text in ("control 50, blue 30.25,red 79/400", "a 1/3,b 50,c 1/6", "x 100"):
            wide = "  " + "   ".join([characters for _, characters, _ in scan(text)]) + " "
            self.same(read_shares(wide), read_shares(text))
        self.same(read_shares("a 50,b 50"), read_shares("a 50  ,  b 50"))
        self.same(read_shares("a 50 . 5,b 49 . 5"), (("a", (101, 200)), ("b", (99, 200))))

    def test_problems_move_with_them(self):
        self.problem(7, TWO_DIGITS, read_shares, "  a 5.123")
        self.problem(9, TWO_DIGITS, read_shares, "  a 5 . 123")


class WrongArguments(ScanCase):
    """Promises 7 and 145."""

    def test_texts(self):
        self.checks_arguments(read_shares, ("a 100",), ("text", NO_TEXT))
        self.checks_arguments(read_assignment, ("0*3", 1), ("text", NO_TEXT), ("variants", NO_VARIANTS))
        self.checks_arguments(next_tokens, ("a 100", "shares"), ("text", NO_TEXT), ("kind", NO_KIND))

    def test_before_every_problem_of_the_text(self):
        for text in ("#", "a" * 13, "9", "0*0", "0*21", "1,", "1*"):
            for variants in NO_VARIANTS:
                self.refused("variants", read_assignment, text, variants)
            for kind in NO_KIND:
                self.refused("kind", next_tokens, text, kind)
        self.refused("text", read_shares, "#\n")
        self.refused("text", read_assignment, "#\n", 0)

    def test_four_hundred_characters(self):
        self.same(read_shares(" " * 395 + "a 100"), (("a", (1, 1)),))
        self.same(read_assignment("0" + " " * 399, 1), (0,))
        self.same(next_tokens(" " * 400, "shares"), ["a name"])
        self.problem(401, "expected a name", read_shares, " " * 400)
