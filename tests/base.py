"""A test case that compares kinds as well as values, and tries wrong arguments."""

import unittest

from leastmoved.errors import BadValue

# Wrong wherever the document asks for a tuple or an integer.
NOTHING = (None, True, False, "", "0", "first", [], {}, -1, 1.5, b"", object())


class Case(unittest.TestCase):
    def same(self, got, wanted):
        """repr tells 1 from True and a tuple from a list, also inside other values."""
        self.assertEqual(repr(got), repr(wanted))

    def refused(self, name, function, *arguments):
        with self.assertRaises(BadValue) as caught:
            function(*arguments)
        self.assertEqual(caught.exception.name, name, (function.__name__, arguments))

    def checks_arguments(self, function, right, *wrong):
        """right: right arguments; wrong: for each of them its name and wrong values."""
        self.assertEqual(len(right), len(wrong))
        function(*right)
        for place, (name, values) in enumerate(wrong):
            for value in values:
                before, after = right[:place], right[place + 1:]
                self.refused(name, function, *before, value, *after)
                self.refused(name, function, *before, value, *[None] * len(after))
                rest = [others[0] for _, others in wrong[place + 1:]]
                self.refused(name, function, *before, value, *rest)

    def fresh_list(self, function, *arguments):
        """The returned list is new each time."""
        first = function(*arguments)
        self.assertIs(type(first), list)
        kept = list(first)
        first.append("changed")
        first[0] = "changed"
        self.same(function(*arguments), kept)
