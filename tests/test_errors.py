from leastmoved import errors
from leastmoved.errors import BadValue, LeastError, NotPossible, TextError, TooLarge
from tests.base import Case

BELOW = (BadValue, TooLarge, NotPossible, TextError)


class Errors(Case):
    """Promise 8."""

    def test_bases(self):
        self.assertEqual(LeastError.__bases__, (ValueError,))
        for error in BELOW:
            self.assertTrue(issubclass(error, LeastError))
            self.assertTrue(issubclass(error, ValueError))

    def test_none_is_a_subclass_of_another(self):
        for error in BELOW:
            for other in BELOW:
                self.assertEqual(issubclass(error, other), error is other)

    def test_all_errors_are_below_least_error(self):
        classes = [value for value in vars(errors).values() if isinstance(value, type)]
        self.assertEqual(set(classes), set(BELOW) | {LeastError})

    def test_attributes(self):
        self.same(BadValue("first").name, "first")
        self.same(TooLarge("search").what, "search")
        self.same(NotPossible("in use").why, "in use")
        error = TextError(11, "the total is not the whole")
        self.same((error.column, error.words), (11, "the total is not the whole"))

    def test_attributes_belong_to_the_object(self):
        one, two = BadValue("first"), BadValue("second")
        self.same((one.name, two.name), ("first", "second"))

    def test_they_are_raised_and_caught(self):
        made = (BadValue("a"), TooLarge("b"), NotPossible("c"), TextError(1, "d"), LeastError("e"))
        for error in made:
            with self.assertRaises(LeastError):
                raise error

    def test_messages_tell_what_is_wrong(self):
        self.assertIn("first", str(BadValue("first")))
        self.assertIn("search", str(TooLarge("search")))
        self.assertIn("in use", str(NotPossible("in use")))
        self.assertIn("11", str(TextError(11, "words")))
        self.assertIn("words", str(TextError(11, "words")))
