"""What the document promises over the whole program: promises 1 to 8."""

import os
import subprocess
import sys
from copy import deepcopy
from importlib import import_module
from pathlib import Path
from random import Random

from leastmoved.controller import Controller
from leastmoved.errors import BadValue, LeastError, NotPossible, TextError, TooLarge
from leastmoved.reading import read_shares
from tests.base import Case
from tests.calls import CALLS, JOURNAL, TAKE_ANY_FIRST
from tests.modelled import told_by
from tests.test_language import INTERFACE

RETURN_LISTS = ("moves", "buckets_of", "bad_triples", "entries", "interval_moves", "scan", "next_tokens")


def everything():
    """All calls, as (function, arguments)."""
    found = []
    for module, functions in CALLS.items():
        for name, rows in functions.items():
            function = getattr(import_module("leastmoved." + module), name)
            found.extend((function, arguments) for arguments in rows)
    return found


def shown(value):
    """A text of what a call returned that tells kinds, too."""
    return repr(told_by(value)) if isinstance(value, Controller) else repr(value)


def results(calls):
    return [shown(function(*deepcopy(arguments))) for function, arguments in calls]


class Answers(Case):
    """Promise 2."""

    def test_every_function_is_called(self):
        wanted = {(module, name) for module, names in INTERFACE.items() for name in names if module != "errors"}
        self.assertEqual({(module, name) for module, names in CALLS.items() for name in names}, wanted)

    def test_the_same_however_often_and_in_whatever_order(self):
        calls = everything()
        first = results(calls)
        self.assertEqual(results(calls), first)
        for seed in range(4):
            order = list(range(len(calls)))
            Random(seed).shuffle(order)
            again = results([calls[k] for k in order + order])
            self.assertEqual(again, [first[k] for k in order + order])

    def test_the_same_between_calls_that_fail(self):
        calls = everything()
        first = results(calls)
        for (function, arguments), wanted in zip(calls, first):
            if function.__name__ not in TAKE_ANY_FIRST:
                with self.assertRaises(BadValue):
                    function(None, *arguments[1:])
            self.assertEqual(shown(function(*arguments)), wanted)

    def test_arguments_stay(self):
        for function, arguments in everything():
            given = deepcopy(arguments)
            function(*given)
            self.same(given, arguments)

    def test_lists_returned_earlier_stay(self):
        calls = everything()
        kept = [(function(*arguments), (function, arguments)) for function, arguments in calls]
        before = [shown(value) for value, _ in kept]
        Random(2).shuffle(calls)
        results(calls)
        self.assertEqual([shown(value) for value, _ in kept], before)

    def test_changing_a_list_has_no_effect(self):
        changed = set()
        for function, arguments in everything():
            value = function(*arguments)
            if isinstance(value, list):
                before = repr(value)
                value.reverse()
                value.append("changed")
                self.same(repr(function(*arguments)), before)
                value.clear()
                self.same(repr(function(*arguments)), before)
                changed.add(function.__name__)
        self.assertEqual(changed, set(RETURN_LISTS))

    def test_the_same_in_every_process(self):
        """No clock and no random numbers; and nothing depends on how Python scatters the members of its sets."""
        folder = Path(__file__).resolve().parent.parent
        script = "from tests.test_whole import everything, results\nprint(chr(10).join(results(everything())))"
        for seed in ("0", "1", "4242"):
            environment = dict(os.environ, PYTHONHASHSEED=seed, PYTHONDONTWRITEBYTECODE="1", PYTHONPATH=str(folder))
            done = subprocess.run(
                [sys.executable, "-c", script], cwd=folder, env=environment, capture_output=True, text=True, check=True)
            self.assertEqual(done.stdout.splitlines(), results(everything()))


class Kinds(Case):
    """Promises 2 and 3."""

    def check(self, value, name):
        if isinstance(value, tuple):
            for part in value:
                self.check(part, name)
        else:
            self.assertIn(type(value), (int, str, bool, type(None)), name)

    def test_values(self):
        for function, arguments in everything():
            value = function(*arguments)
            if function.__name__ in RETURN_LISTS:
                self.assertIs(type(value), list, function.__name__)
                value = tuple(value)
            if isinstance(value, Controller):
                value = tuple(told_by(value).values())
            self.check(value, function.__name__)

    def test_truths_are_true_and_false(self):
        names = {function.__name__ for function, arguments in everything() if type(function(*arguments)) is bool}
        self.assertEqual(names, {
            "is_allocation", "is_nearest", "is_order", "is_assignment", "is_minimal", "gives", "is_obstruction",
            "accepts_three", "accepts_return", "lies_between", "accepts_tree", "is_rule", "leaves", "serves_rule",
            "accepts_none", "is_family", "coexist", "accepts_few", "accepts_fewest", "is_possible", "is_too_small", "is_best",
            "are_right", "is_shares"})

    def test_true_is_no_integer(self):
        """Where a 1 or a 0 in an argument becomes True or False, the answer is not as if it were still an integer."""
        for function, arguments in everything():
            wanted = shown(function(*arguments))
            for changed in with_truths(arguments):
                try:
                    got = shown(function(*changed))
                except BadValue:
                    continue
                # Other arguments of these functions are not checked (point 17), and a judge refuses the value.
                self.assertTrue(got == "False" or function.__name__ in TAKE_ANY_FIRST, (function.__name__, changed))
            self.assertEqual(shown(function(*arguments)), wanted)


def with_truths(value):
    """The value with one 0 or 1 in it, at any depth, as False or True."""
    if isinstance(value, (tuple, list)):
        for place, part in enumerate(value):
            for changed in with_truths(part):
                yield value[:place] + type(value)([changed]) + value[place + 1:]
    elif type(value) is int and value in (0, 1):
        yield bool(value)


class Modules(Case):
    """Promise 8."""

    def test_names_are_imported_from_their_modules(self):
        for module, names in INTERFACE.items():
            for name in names:
                made = getattr(import_module("leastmoved." + module), name)
                self.assertEqual((made.__module__, made.__name__), ("leastmoved." + module, name))

    def test_all_errors_are_least_errors(self):
        for error in (BadValue("a"), TooLarge("b"), NotPossible("c"), TextError(1, "d")):
            self.assertIsInstance(error, LeastError)
            self.assertIsInstance(error, ValueError)
        for call in (lambda: read_shares("a 1"), lambda: Controller(3, 4).act(("unpin", 0)), lambda: Controller(0, 0)):
            with self.assertRaises(LeastError):
                call()


class Objects(Case):
    """Promise 2, for controllers."""

    def test_controllers_beside_each_other(self):
        alone = []
        controller = Controller(3, 4)
        for action in JOURNAL:
            controller.act(action)
            alone.append(told_by(controller))
        several = [Controller(3, 4) for _ in range(3)]
        for step, action in enumerate(JOURNAL):
            for each in several:
                each.churn_to((0, 2, 2))
                each.act(action)
                self.same(told_by(each), alone[step])
        several[0].undo()
        self.same(told_by(several[1]), alone[-1])

    def test_asking_changes_nothing(self):
        controller = Controller(3, 4)
        for action in JOURNAL:
            controller.act(action)
            before = told_by(controller)
            self.same(told_by(controller), before)
            controller.churn_to((1, 1, 2))
            self.same(told_by(controller), before)
