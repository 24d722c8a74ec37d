from itertools import product
from random import Random

from leastmoved.controller import Controller
from leastmoved.errors import NotPossible
from leastmoved.journals import are_right, replayed
from leastmoved.keeping import levels_for
from tests.base import NOTHING, Case
from tests.brute import all_allocations, all_assignments, bound_told, kept_in, moved
from tests.modelled import Model, Refused, random_action, told_by
from tests.test_controller import NO_ACTION, NO_BUCKETS, NO_VARIANTS

EVERY_KIND = (
    ("set", (2, 1, 1)), ("pin", 0), ("exclude", 2, 2), ("set", (1, 2, 1)), ("rollback", 1), ("unpin", 0), ("allow", 2, 2),
    ("set", (0, 3, 1)), ("pin", 3), ("exclude", 1, 0), ("set", (1, 2, 1)))
SIZES = ((3, 4), (2, 4), (3, 3), (4, 3), (1, 2), (3, 0))


def journals():
    """Random journals, with their sizes."""
    for variants, buckets in SIZES:
        for seed in range(10):
            random = Random(129 + 1000 * variants + 100 * buckets + seed)
            model = Model(variants, buckets)
            for _ in range(14):
                try:
                    model.act(random_action(random, model))
                except Refused:
                    pass
            yield variants, buckets, model


JOURNALS = list(journals())


def right_by_words(variants, buckets, records):
    """The records are right, as promise 129 tells it; they have the right form."""
    model = Model(variants, buckets)
    for action, row, levels in records:
        before, past, numbers = model.row, list(model.past), list(model.numbers)
        pins = tuple((b, before[b]) for b in sorted(model.pinned))
        told = (tuple(sorted(model.excluded)), pins)
        permitted = model.is_permitted
        if action[0] == "set" and row in all_assignments(variants, buckets):
            of_it = all(row.count(v) == share for v, share in enumerate(action[1]))
            if not of_it or not permitted(row) or levels is None or len(levels) != variants:
                return False
            if bound_told(action[1], before, *told, levels) != kept_in(before, row):
                return False
            model.row, model.past = row, [before] + past
            model.numbers = [n + (a != b) for n, a, b in zip(numbers, before, row)]
            continue
        try:
            model.act(action)
        except Refused:
            return False
        if model.row != row or levels is not None:
            return False
    return True


def goes_on(variants, buckets, records):
    """The records with others of the best assignments after each "set", as far as the actions are possible then."""
    model = Model(variants, buckets)
    found = []
    for action, _, _ in records:
        try:
            if action[0] == "set":
                told = (tuple(sorted(model.excluded)), tuple((b, model.row[b]) for b in sorted(model.pinned)))
                levels = levels_for(action[1], model.row, *told)
                rows = model.permitted_ones(action[1])
                model.refuse(not rows, "allocation")
                least = min(moved(model.row, row) for row in rows)
                row = [row for row in rows if moved(model.row, row) == least][-1]
                model.past.insert(0, model.row)
                model.row = row
            else:
                model.act(action)
                levels = None
        except Refused:
            return tuple(found)
        found.append((action, model.row, levels))
    return tuple(found)


class Replaying(Case):
    """Promise 126."""

    def test_it_is_as_one_that_has_made_the_actions(self):
        for variants, buckets, model in JOURNALS:
            controller = replayed(variants, buckets, tuple(model.done))
            self.assertIs(type(controller), Controller)
            self.same(told_by(controller), model.told())
            for allocation in all_allocations(variants, buckets):
                best = model.least(allocation)
                self.same(controller.churn_to(allocation), None if best is None else moved(model.row, best))

    def test_undone_afterwards(self):
        for variants, buckets, model in JOURNALS:
            controller = replayed(variants, buckets, tuple(model.done))
            for many in reversed(range(len(model.done))):
                self.same(controller.undo(), model.done[many])
                other = replayed(variants, buckets, tuple(model.done[:many]))
                self.same(told_by(controller), told_by(other))
            self.same(controller.undo(), None)

    def test_what_the_actions_raise(self):
        for journal, why in (
                ((("unpin", 0),), "not pinned"), ((("set", (2, 1, 1)), ("pin", 0), ("pin", 0)), "pinned"),
                ((("rollback", 1),), "too far"), ((("exclude", 0, 0),), "in use"), ((("allow", 0, 1),), "not excluded"),
                ((("pin", 0), ("set", (0, 2, 2))), "allocation"), ((("exclude", 0, 1),) * 2, "excluded"),
                ((("set", (3, 1, 0)), ("pin", 3), ("rollback", 1), ("unpin", 0)), "not permitted")):
            with self.assertRaises(NotPossible) as caught:
                replayed(3, 4, journal)
            self.same(caught.exception.why, why)

    def test_thirty_actions(self):
        journal = tuple(("set", (2 - k % 2, k % 2)) for k in range(30))
        self.same(replayed(2, 2, journal).journal(), journal)
        self.refused("journal", replayed, 2, 2, journal + (("pin", 0),))
        self.refused("journal", replayed, 2, 2, journal + (("unpin", 0),))
        self.same(replayed(2, 2, ()).journal(), ())

    def test_a_new_one_each_time(self):
        one, two = replayed(3, 4, EVERY_KIND), replayed(3, 4, EVERY_KIND)
        before = told_by(two)
        one.undo()
        one.act(("unpin", 3))
        self.same(told_by(two), before)


class RightRecords(Case):
    """Promises 128 to 130."""

    def test_records_of_controllers(self):
        for variants, buckets, model in JOURNALS:
            records = replayed(variants, buckets, tuple(model.done)).records()
            self.same(records, tuple(model.records))
            for many in range(len(records) + 1):
                self.same(are_right(variants, buckets, records[:many]), True)

    def test_every_kind_of_action(self):
        records = replayed(3, 4, EVERY_KIND).records()
        self.assertEqual({action[0] for action, _, _ in records}, {"set", "pin", "unpin", "exclude", "allow", "rollback"})
        self.same(are_right(3, 4, records), True)
        self.same(are_right(3, 5, records), False)
        self.same(are_right(4, 4, records), False)
        self.same(are_right(2, 4, records), False)

    def test_an_assignment_changed(self):
        for variants, buckets, model in JOURNALS[::2]:
            records = tuple(model.records)
            for at, (action, row, levels) in list(enumerate(records))[::3]:
                for other in all_assignments(variants, buckets)[::3]:
                    changed = records[:at] + ((action, other, levels),) + records[at + 1:]
                    self.same(are_right(variants, buckets, changed), right_by_words(variants, buckets, changed))

    def test_a_level_changed(self):
        for variants, buckets, model in JOURNALS:
            records = tuple(model.records)
            for at, (action, row, levels) in enumerate(records):
                others = [(0,) * variants, None]
                if levels is not None:
                    for v, change in product(range(variants), (-1, 1)):
                        others.append(levels[:v] + (levels[v] + change,) + levels[v + 1:])
                    others.append(tuple(level + 3 for level in levels))
                for other in others:
                    changed = records[:at] + ((action, row, other),) + records[at + 1:]
                    self.same(are_right(variants, buckets, changed), right_by_words(variants, buckets, changed))

    def test_an_action_changed(self):
        random = Random(129)
        for variants, buckets, model in JOURNALS:
            records = tuple(model.records)
            for at, (action, row, levels) in enumerate(records):
                for _ in range(3):
                    changed = records[:at] + ((random_action(random, model), row, levels),) + records[at + 1:]
                    self.same(are_right(variants, buckets, changed), right_by_words(variants, buckets, changed))

    def test_two_records_exchanged_or_one_left_out(self):
        for variants, buckets, model in JOURNALS:
            records = tuple(model.records)
            for at in range(len(records) - 1):
                exchanged = records[:at] + (records[at + 1], records[at]) + records[at + 2:]
                self.same(are_right(variants, buckets, exchanged), right_by_words(variants, buckets, exchanged))
            for at in range(len(records)):
                rest = records[:at] + records[at + 1:]
                self.same(are_right(variants, buckets, rest), right_by_words(variants, buckets, rest))

    def test_another_one_of_the_best_assignments(self):
        others = 0
        for variants, buckets, model in JOURNALS:
            records = goes_on(variants, buckets, model.records)
            self.same(are_right(variants, buckets, records), True)
            others += records != tuple(model.records)[:len(records)]
        self.assertGreater(others, 20)
        self.same(are_right(3, 4, ((("set", (2, 1, 1)), (2, 0, 1, 0), (0, 0, 0)),)), False)
        self.same(are_right(3, 4, ((("set", (2, 1, 1)), (2, 0, 1, 0), (1, 0, 0)),)), True)

    def test_the_state_goes_on_with_the_recorded_assignment(self):
        first = (("set", (1, 1)), (1, 0), (1, 0))
        self.same(are_right(2, 2, (first, (("exclude", 1, 1), (1, 0), None))), True)
        self.same(are_right(2, 2, (first, (("exclude", 0, 1), (1, 0), None))), False)
        self.same(are_right(2, 2, (first, (("pin", 0), (0, 1), None))), False)
        again = (("set", (0, 2)), (1, 1), (1, 0))
        self.same(are_right(2, 2, (first, again, (("rollback", 1), (1, 0), None))), True)
        self.same(are_right(2, 2, (first, again, (("rollback", 1), (0, 1), None))), False)
        self.same(are_right(2, 2, (first, again, (("rollback", 2), (0, 0), None))), True)
        self.same(are_right(2, 2, (first, again, (("rollback", 3), (0, 0), None))), False)

    def test_more_than_thirty(self):
        pin, unpin = (("pin", 0), (0, 0), None), (("unpin", 0), (0, 0), None)
        self.same(are_right(2, 2, (pin, unpin) * 100), True)
        self.same(are_right(2, 2, (pin, unpin) * 100 + (unpin,)), False)
        sets = tuple((("set", (2, 0)), (0, 0), (0, 0)) for _ in range(40))
        self.same(are_right(2, 2, sets), True)
        self.same(are_right(2, 2, sets + ((("rollback", 30), (0, 0), None),)), True)
        # The bound of 30 is one for the arguments of promise 132; 40 is a possible number here, and 41 is too far.
        self.same(are_right(2, 2, sets + ((("rollback", 40), (0, 0), None),)), True)
        self.same(are_right(2, 2, sets + ((("rollback", 41), (0, 0), None),)), False)

    def test_values_of_every_kind(self):
        right = (("set", (2, 1, 1)), (0, 0, 1, 2), (1, 0, 0))
        pin = (("pin", 0), (0, 0, 1, 2), None)
        self.same(are_right(3, 4, (right, pin)), True)
        self.same(are_right(3, 4, ()), True)
        for value in NOTHING + (
                right, [right], (list(right),), (right[:2],), (right + (None,),), (None,), ((),), ("set",), (right, None),
                (right, pin[:2]), (right, pin + (None,)), (right, list(pin))):
            self.same(are_right(3, 4, value), False)
        for value in NO_ACTION:
            for levels in ((1, 0, 0), None):
                self.same(are_right(3, 4, ((value, (0, 0, 0, 0), levels),)), False)
        for value in NOTHING + (
                (0, 0, 1), [0, 0, 1, 2], (0, 0, True, 2), (False, 0, 1, 2), (0, 0, 1, 2.0), (0, 0, 1, 3), "0012",
                (0, 0, 1, 2, 2), (0, 1, 1, 2)):
            self.same(are_right(3, 4, ((right[0], value, right[2]),)), False)
            self.same(are_right(3, 4, (right, (pin[0], value, None))), False)
        for value in NOTHING + ((1, 0), (1, False, 0), [1, 0, 0], (1, 0, 0, 0), (True, 0, 0), (1, 0, None), "100", (1, 0, 0.0)):
            self.same(are_right(3, 4, ((right[0], right[1], value),)), False)
            if value is not None:
                self.same(are_right(3, 4, (right, (pin[0], pin[1], value))), False)
        self.same(are_right(3, 4, (right, (pin[0], pin[1], (0, 0, 0)))), False)

    def test_example(self):
        self.same(are_right(3, 4, ((("set", (2, 1, 1)), (1, 2, 0, 0), (2, 0, 0)),)), False)
        self.same(are_right(3, 4, ((("set", (2, 1, 1)), (1, 2, 0, 0), (1, 0, 0)),)), True)

    def test_great_sizes(self):
        controller = Controller(5, 20)
        for action in (("set", (4, 4, 4, 4, 4)), ("pin", 19), ("exclude", 0, 4), ("set", (3, 3, 3, 3, 8)), ("rollback", 1)):
            controller.act(action)
        self.same(are_right(5, 20, controller.records()), True)
        self.same(are_right(1, 0, ((("set", (0,)), (), (0,)), (("rollback", 1), (), None))), True)


class WrongArguments(Case):
    """Promises 7 and 132."""

    def test_replayed(self):
        wrong = NOTHING + (
            ("pin", 0), [("pin", 0)], (("pin", 0), None), ("set", (2, 1, 1)), ((),), (("pin", 0),) * 31,
        ) + tuple((value,) for value in NO_ACTION) + tuple((("pin", 0), value) for value in NO_ACTION)
        self.checks_arguments(
            replayed, (3, 4, EVERY_KIND), ("variants", NO_VARIANTS), ("buckets", NO_BUCKETS), ("journal", wrong))
        # The journal is checked before any action is made.
        self.refused("journal", replayed, 3, 4, (("unpin", 0), ("pin", 4)))

    def test_are_right(self):
        self.checks_arguments(
            lambda variants, buckets: are_right(variants, buckets, None), (3, 4),
            ("variants", NO_VARIANTS), ("buckets", NO_BUCKETS))
