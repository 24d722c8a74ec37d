from itertools import product

from leastmoved.errors import TextError
from leastmoved.scanning import scan
from tests.base import NOTHING, Case
from tests.grammar import scanned

NO_TEXT = tuple(value for value in NOTHING if not isinstance(value, str)) + (
    "a\nb", "\n", "a 100\n", " " * 401, "a" * 401, "#" * 401, "\n" * 500, ("a",), ["a"], b"a 100", 100)
NO_TOKEN = "A", "Z", "_", "-", "+", "#", "%", "(", '"', "'", "\\", ";", ":", "\t", "\r", "\x0b", "\xa0", "\u2003", "\u2028", \
    "\xe9", "\u03b1", "\u0660", "\u0663", "\xb2", "\xb5", "\uff11", "\uff41", "\u2160", "\U0001d7d8", "\x00", "~", "`", "{"


class ScanCase(Case):
    def problem(self, column, words, function, *arguments):
        with self.assertRaises(TextError) as caught:
            function(*arguments)
        self.same((caught.exception.column, caught.exception.words), (column, words))

    def scans_as_told(self, text):
        wanted = scanned(text)
        if isinstance(wanted, tuple):
            self.problem(*wanted, scan, text)
        else:
            self.same(scan(text), wanted)


class Tokens(ScanCase):
    """Promises 134 and 135."""

    def test_each_kind(self):
        self.same(scan("blue"), [("name", "blue", 1), ("end", "", 5)])
        self.same(scan("007"), [("number", "007", 1), ("end", "", 4)])
        for sign in ",.*/":
            self.same(scan(sign), [("sign", sign, 1), ("end", "", 2)])
        self.same(scan(""), [("end", "", 1)])
        self.same(scan("   "), [("end", "", 4)])

    def test_as_long_as_possible(self):
        self.same(scan("a_1b2__"), [("name", "a_1b2__", 1), ("end", "", 8)])
        self.same(scan("12ab3"), [("number", "12", 1), ("name", "ab3", 3), ("end", "", 6)])
        self.same(scan("ab 3"), [("name", "ab", 1), ("number", "3", 4), ("end", "", 5)])
        self.same(scan("1 2"), [("number", "1", 1), ("number", "2", 3), ("end", "", 4)])
        self.same(scan("a a"), [("name", "a", 1), ("name", "a", 3), ("end", "", 4)])
        self.same(
            scan(" a  30.25,b ** "),
            [("name", "a", 2), ("number", "30", 5), ("sign", ".", 7), ("number", "25", 8), ("sign", ",", 10), ("name", "b", 11),
             ("sign", "*", 13), ("sign", "*", 14), ("end", "", 16)])

    def test_all_small_texts(self):
        for many in range(5):
            for characters in product("ab0_ ,./*A", repeat=many):
                self.scans_as_told("".join(characters))

    def test_all_letters_and_digits(self):
        for letter in "abcdefghijklmnopqrstuvwxyz":
            self.same(scan(letter), [("name", letter, 1), ("end", "", 2)])
            self.same(scan("x" + letter), [("name", "x" + letter, 1), ("end", "", 3)])
        for digit in "0123456789":
            self.same(scan(digit), [("number", digit, 1), ("end", "", 2)])
            self.same(scan("x" + digit), [("name", "x" + digit, 1), ("end", "", 3)])

    def test_no_other_character(self):
        for character in NO_TOKEN:
            self.problem(1, "no token begins here", scan, character)
            if character != "_":
                self.problem(4, "no token begins here", scan, "a1 " + character)
                self.problem(2, "no token begins here", scan, "a" + character)
            self.problem(2, "no token begins here", scan, "1" + character)
            self.problem(3, "no token begins here", scan, ", " + character + " a")

    def test_longest_names_and_numbers(self):
        self.same(scan("a" * 12), [("name", "a" * 12, 1), ("end", "", 13)])
        self.same(scan("123456"), [("number", "123456", 1), ("end", "", 7)])
        self.same(scan("000000a"), [("number", "000000", 1), ("name", "a", 7), ("end", "", 8)])
        self.problem(1, "a name has at most 12 characters", scan, "a" * 13)
        self.problem(3, "a name has at most 12 characters", scan, "  abc_456789_12 ")
        self.problem(1, "a number has at most 6 digits", scan, "0000000")
        self.problem(4, "a number has at most 6 digits", scan, "a, 1234567b")
        self.problem(7, "a name has at most 12 characters", scan, "123456" + "b" * 13)

    def test_the_first_of_several(self):
        parts = ("a" * 13, "1" * 7, "#", "ok", "1", "*")
        for chosen in product(parts, repeat=3):
            self.scans_as_told(" ".join(chosen))
        self.problem(1, "a name has at most 12 characters", scan, "a" * 13 + "#" + "1" * 7)
        self.problem(14, "no token begins here", scan, " " * 13 + "#" + "a" * 13)
        self.problem(1, "a number has at most 6 digits", scan, "1" * 7 + "a" * 13)

    def test_four_hundred_characters(self):
        self.same(scan(" " * 400), [("end", "", 401)])
        self.same(scan("1 " * 200)[-1], ("end", "", 401))
        self.assertEqual(len(scan("*" * 400)), 401)
        self.problem(1, "a name has at most 12 characters", scan, "a" * 400)
        self.problem(400, "no token begins here", scan, " " * 399 + "#")


class WrongArguments(ScanCase):
    """Promises 2, 7, 134 and 145."""

    def test_text(self):
        self.checks_arguments(scan, ("a 100",), ("text", NO_TEXT))
        # Before every problem of its tokens.
        self.refused("text", scan, "#\n")
        self.refused("text", scan, "#" + " " * 400)

    def test_a_new_list(self):
        self.fresh_list(scan, "a 100")
