from random import Random

from leastmoved.controller import Controller
from leastmoved.errors import NotPossible, TooLarge
from leastmoved.keeping import is_best, levels_for
from tests.base import NOTHING, Case
from tests.brute import all_allocations, lost, moved, shares_of
from tests.modelled import Model, Refused, WORDLESS, random_action, told_by

SIZES = ((3, 4), (2, 5), (3, 3), (4, 3), (1, 2), (2, 1), (5, 2), (3, 0), (1, 0))
NO_VARIANTS = (0, 6, -1, None, True, False, "3", (3,), [3], 3.0)
NO_BUCKETS = (-1, 21, None, True, False, "4", (4,), [4], 4.0)
# Wrong for three variants and four buckets.
NO_ALLOCATION = NOTHING + (
    (), (4,), (2, 2), (2, 1, 1, 0), (2, 1, 2), (2, 1, 0), (5, -1, 0), (3, True, 0), (3, 1, None), (4, 0.0, 0), [2, 1, 1],
    "211", ((2, 1, 1),))
NO_ACTION = NOTHING + (
    (), ("set",), ("set", (2, 1, 1), 0), ("set", (2, 1, 1), ()), ["set", (2, 1, 1)], ("Set", (2, 1, 1)), ("SET", (4, 0, 0)),
    ("pin",), ("pin", 0, 0), ("pin", 4), ("pin", -1), ("pin", True), ("pin", False), ("pin", None), ("pin", "0"), ["pin", 0],
    ("pin", (0,)), ("pin", 0.0), ("unpin",), ("unpin", 4), ("unpin", -1), ("unpin", True), ("unpin", 0, 1),
    ("exclude",), ("exclude", 0), ("exclude", 0, 1, 2), ("exclude", 4, 1), ("exclude", 0, 3), ("exclude", -1, 1),
    ("exclude", 0, -1), ("exclude", True, 1), ("exclude", 0, True), ("exclude", (0, 1)), ("exclude", 0, None),
    ("allow",), ("allow", 0), ("allow", 0, 1, 2), ("allow", 4, 1), ("allow", 0, 3), ("allow", False, 1), ("allow", 0, "1"),
    ("rollback",), ("rollback", 0), ("rollback", -1), ("rollback", 31), ("rollback", True), ("rollback", 1, 1),
    ("rollback", None), ("rollback", "1"), ("rollback", (1,)), ["rollback", 1], ("undo",), ("undo", 1), ("", 1), (0, 1),
    (None, 1), ("pin", [0]), (("pin", 0),), "pin", ("pins", 0), (("pin",), 0), ("set", None), ("set", 1), ("rollback", 1.0),
) + tuple(("set", value) for value in NO_ALLOCATION)


class Stepping(Case):
    """A case that makes actions, of which some are not possible."""

    def refused_with(self, why, controller, *actions):
        """None of the actions is possible, and none changes anything."""
        for action in actions:
            before = told_by(controller)
            with self.assertRaises(NotPossible) as caught:
                controller.act(action)
            self.same((caught.exception.why, action), (why, action))
            self.same(told_by(controller), before)

    def made(self, variants, buckets, *actions):
        controller = Controller(variants, buckets)
        for action in actions:
            controller.act(action)
        return controller


class Beginning(Stepping):
    """Promise 123."""

    def test_new_one(self):
        for variants, buckets in SIZES + ((5, 20),):
            nothing = (0,) * buckets
            wanted = {name: () for name in WORDLESS}
            wanted.update(assignment=nothing, allocation=(buckets,) + (0,) * (variants - 1), changes=nothing)
            self.same(told_by(Controller(variants, buckets)), wanted)
            self.same(Controller(variants, buckets).undo(), None)

    def test_two_do_not_share_anything(self):
        one, two = Controller(3, 4), Controller(3, 4)
        before = told_by(two)
        for action in (("set", (2, 1, 1)), ("pin", 0), ("exclude", 0, 1)):
            one.act(action)
        self.same(told_by(two), before)


class AgainstTheWords(Stepping):
    """Promises 123 to 128 and 131."""

    def test_random_actions(self):
        for variants, buckets in SIZES:
            for seed in range(12):
                self.walk(variants, buckets, Random(1000 * variants + 100 * buckets + seed), 28)

    def walk(self, variants, buckets, random, steps):
        controller, model = Controller(variants, buckets), Model(variants, buckets)
        for _ in range(steps):
            if random.random() < 0.12:
                self.same(controller.undo(), model.undo())
            else:
                self.step(controller, model, random_action(random, model))
            self.same(told_by(controller), model.told())

    def step(self, controller, model, action):
        before = sum(controller.changes())
        try:
            wanted = model.act(action)
        except Refused as refusal:
            self.refused_with(refusal.args[0], controller, action)
        else:
            self.same(controller.act(action), wanted)
            self.assertEqual(sum(controller.changes()) - before, wanted)
            self.assertTrue(wanted == 0 or action[0] in ("set", "rollback"))

    def test_every_word_is_met(self):
        """The random actions above meet every word of promise 125."""
        words = set()
        for variants, buckets in SIZES:
            for seed in range(12):
                random, model = Random(1000 * variants + 100 * buckets + seed), Model(variants, buckets)
                for _ in range(28):
                    if random.random() < 0.12:
                        model.undo()
                        continue
                    try:
                        model.act(random_action(random, model))
                    except Refused as refusal:
                        words.add(refusal.args[0])
        self.assertEqual(words, {
            "allocation", "pinned", "not pinned", "in use", "excluded", "not excluded", "too far", "not permitted"})


class Setting(Stepping):
    """Promises 125 and 127."""

    def test_the_same_allocation_again(self):
        controller = self.made(3, 4, ("set", (2, 1, 1)))
        self.same(controller.act(("set", (2, 1, 1))), 0)
        self.same(controller.earlier(), ((0, 0, 1, 2), (0, 0, 0, 0)))
        self.same(controller.changes(), (0, 0, 1, 1))

    def test_all_allocations_from_all_states(self):
        random = Random(127)
        for variants, buckets in ((3, 4), (2, 4), (4, 3)):
            for _ in range(8):
                controller, model = Controller(variants, buckets), Model(variants, buckets)
                for _ in range(9):
                    action = random_action(random, model)
                    try:
                        model.act(action)
                    except Refused:
                        continue
                    controller.act(action)
                    self.check_all(controller, model)

    def check_all(self, controller, model):
        before = told_by(controller)
        for allocation in all_allocations(*model.sizes):
            found = model.permitted_ones(allocation)
            churns = [moved(model.row, row) for row in found]
            self.same(controller.churn_to(allocation), min(churns) if found else None)
            self.same(told_by(controller), before)
            if not found:
                self.refused_with("allocation", controller, ("set", allocation))
                continue
            self.same(controller.act(("set", allocation)), min(churns))
            self.same(controller.assignment(), found[churns.index(min(churns))])
            self.same(controller.act(("rollback", 1)), min(churns))
            self.same((controller.assignment(), controller.earlier()), (before["assignment"], before["earlier"]))
            self.same((controller.undo(), controller.undo()), (("rollback", 1), ("set", allocation)))
            self.same(told_by(controller), before)

    def test_the_transfer_without_pins_and_excluded_pairs(self):
        controller = Controller(3, 4)
        for allocation in all_allocations(3, 4):
            wanted = lost(controller.allocation(), allocation)
            self.same(controller.churn_to(allocation), wanted)
            self.same(controller.act(("set", allocation)), wanted)
            self.same(shares_of(controller.assignment(), 3), allocation)

    def test_pinned_and_excluded(self):
        controller = self.made(3, 4, ("set", (2, 1, 1)), ("pin", 0), ("pin", 1), ("exclude", 2, 0))
        self.refused_with("allocation", controller, ("set", (1, 2, 1)), ("set", (4, 0, 0)))
        self.same(controller.churn_to((3, 1, 0)), 1)
        self.same((controller.act(("set", (3, 1, 0))), controller.assignment()), (1, (0, 0, 1, 0)))
        self.same(controller.churn_to((3, 0, 1)), 1)
        self.same(controller.churn_to((2, 2, 0)), 1)
        self.same(controller.churn_to((4, 0, 0)), None)

    def test_great_sizes(self):
        controller = Controller(5, 20)
        self.same(controller.act(("set", (4, 4, 4, 4, 4))), 16)
        for bucket in range(0, 20, 3):
            controller.act(("pin", bucket))
        for bucket in range(1, 20, 2):
            controller.act(("exclude", bucket, (controller.assignment()[bucket] + 1) % 5))
        before = controller.assignment()
        self.same(controller.churn_to((0, 0, 0, 0, 20)), None)
        wanted = controller.churn_to((2, 3, 4, 5, 6))
        self.same(controller.act(("set", (2, 3, 4, 5, 6))), wanted)
        self.same(moved(before, controller.assignment()), wanted)
        for bucket in controller.pins():
            self.same(controller.assignment()[bucket], before[bucket])
        for bucket, variant in controller.excluded():
            self.assertNotEqual(controller.assignment()[bucket], variant)


class Actions(Stepping):
    """Promises 125 and 131, action by action."""

    def test_pin_and_unpin(self):
        controller = Controller(3, 4)
        self.refused_with("not pinned", controller, ("unpin", 2))
        for bucket in (2, 0, 3):
            self.same(controller.act(("pin", bucket)), 0)
        self.same(controller.pins(), (0, 2, 3))
        self.refused_with("pinned", controller, ("pin", 2), ("pin", 0))
        self.same(controller.act(("unpin", 2)), 0)
        self.same(controller.pins(), (0, 3))
        self.refused_with("not pinned", controller, ("unpin", 2), ("unpin", 1))
        self.same((controller.assignment(), controller.changes(), controller.earlier()), ((0,) * 4, (0,) * 4, ()))

    def test_exclude_and_allow(self):
        controller = Controller(3, 4)
        self.refused_with("not excluded", controller, ("allow", 2, 1), ("allow", 2, 0))
        for pair in ((2, 1), (0, 2), (2, 2), (0, 1)):
            self.same(controller.act(("exclude",) + pair), 0)
        self.same(controller.excluded(), ((0, 1), (0, 2), (2, 1), (2, 2)))
        self.refused_with("in use", controller, ("exclude", 2, 0), ("exclude", 1, 0))
        self.refused_with("excluded", controller, ("exclude", 2, 1), ("exclude", 0, 2))
        self.same(controller.act(("allow", 0, 2)), 0)
        self.same(controller.excluded(), ((0, 1), (2, 1), (2, 2)))
        self.refused_with("not excluded", controller, ("allow", 0, 2))

    def test_a_pinned_bucket_keeps_the_variant_it_has_now(self):
        controller = self.made(3, 4, ("set", (2, 1, 1)), ("pin", 3))
        self.refused_with("not permitted", controller, ("rollback", 1))
        self.same(controller.act(("set", (1, 2, 1))), 1)
        self.same(controller.assignment(), (0, 1, 1, 2))
        self.same(controller.act(("rollback", 1)), 1)
        controller.act(("unpin", 3))
        self.same(controller.act(("rollback", 1)), 2)

    def test_rollback(self):
        controller = Controller(2, 3)
        self.refused_with("too far", controller, ("rollback", 1), ("rollback", 30))
        for shares in ((2, 1), (1, 2), (0, 3)):
            controller.act(("set", shares))
        rows = controller.earlier()
        self.same(rows, ((0, 1, 1), (0, 0, 1), (0, 0, 0)))
        self.refused_with("too far", controller, ("rollback", 4))
        controller.act(("exclude", 1, 0))
        self.refused_with("not permitted", controller, ("rollback", 2), ("rollback", 3))
        self.same(controller.act(("rollback", 1)), 1)
        controller.undo()
        controller.act(("allow", 1, 0))
        self.same(controller.act(("rollback", 2)), 2)
        self.same((controller.assignment(), controller.earlier()), (rows[1], rows[2:]))
        self.same(controller.changes(), (2, 2, 1))
        self.refused_with("too far", controller, ("rollback", 2))
        self.same(controller.act(("rollback", 1)), 1)
        self.same((controller.assignment(), controller.earlier()), ((0, 0, 0), ()))

    def test_undo(self):
        actions = (
            ("set", (2, 1, 1)), ("pin", 0), ("exclude", 1, 2), ("set", (1, 2, 1)), ("rollback", 1), ("unpin", 0),
            ("allow", 1, 2), ("set", (0, 0, 4)), ("rollback", 2))
        controller = Controller(3, 4)
        seen = [told_by(controller)]
        for action in actions:
            controller.act(action)
            seen.append(told_by(controller))
        while seen[1:]:
            self.same(told_by(controller), seen.pop())
            self.same(controller.undo(), actions[len(seen) - 1])
        self.same(told_by(controller), seen[0])
        self.same((controller.undo(), controller.undo()), (None, None))
        for action in actions:
            controller.act(action)
        self.same(controller.journal(), actions)


class Records(Stepping):
    """Promises 128 and 130."""

    def test_first_levels_and_none(self):
        actions = (("set", (2, 1, 1)), ("set", (1, 2, 1)), ("pin", 0), ("rollback", 1), ("exclude", 1, 2), ("set", (1, 1, 2)))
        controller = Controller(3, 4)
        rows, wanted = [], []
        for action in actions:
            levels = None
            if action[0] == "set":
                pins = tuple((b, controller.assignment()[b]) for b in controller.pins())
                told = (action[1], controller.assignment(), controller.excluded(), pins)
                levels = levels_for(*told)
            controller.act(action)
            if levels is not None:
                self.same(is_best(*told, controller.assignment(), levels), True)
            rows.append(controller.assignment())
            wanted.append((action, rows[-1], levels))
        self.same(controller.records(), tuple(wanted))
        self.same(controller.records()[1], (("set", (1, 2, 1)), (0, 1, 1, 2), (1, 0, 0)))
        controller.undo()
        self.same(controller.records(), tuple(wanted[:-1]))

    def test_the_given_tuples_are_returned(self):
        controller = self.made(2, 2, ("set", (1, 1)), ("pin", 1))
        self.same(controller.journal(), (("set", (1, 1)), ("pin", 1)))
        self.same(controller.records(), ((("set", (1, 1)), (0, 1), (1, 0)), (("pin", 1), (0, 1), None)))


class Errors(Stepping):
    """Promises 7 and 132."""

    def test_new_one(self):
        self.checks_arguments(Controller, (3, 4), ("variants", NO_VARIANTS), ("buckets", NO_BUCKETS))

    def test_no_action(self):
        for controller in (Controller(3, 4), self.made(3, 4, ("set", (2, 1, 1)), ("exclude", 0, 1), ("pin", 0))):
            before = told_by(controller)
            for value in NO_ACTION:
                self.refused("action", controller.act, value)
            self.same(told_by(controller), before)

    def test_no_allocation(self):
        controller = Controller(3, 4)
        for value in NO_ALLOCATION:
            self.refused("allocation", controller.churn_to, value)

    def test_sizes_of_the_controller_count(self):
        self.refused("action", Controller(1, 1).act, ("exclude", 0, 1))
        self.refused("action", Controller(5, 0).act, ("pin", 0))
        self.refused("action", Controller(5, 20).act, ("pin", 20))
        self.refused("action", Controller(2, 2).act, ("set", (1, 1, 0)))
        self.same(Controller(5, 20).act(("exclude", 19, 4)), 0)
        self.same(Controller(1, 0).act(("set", (0,))), 0)

    def full(self):
        return self.made(2, 2, *(("set", (2 - k % 2, k % 2)) for k in range(30)))

    def test_journal_of_thirty(self):
        controller = self.full()
        self.assertEqual(len(controller.journal()), 30)
        before = told_by(controller)
        for action in (("set", (1, 1)), ("pin", 0), ("exclude", 0, 1), ("rollback", 30)):
            with self.assertRaises(TooLarge) as caught:
                controller.act(action)
            self.same(caught.exception.what, "journal")
            self.same(told_by(controller), before)

    def test_order_of_the_errors(self):
        controller = self.full()
        self.refused("action", controller.act, ("pin", 2))
        self.refused("action", controller.act, ("rollback", 31))
        self.refused_with("not pinned", controller, ("unpin", 0))
        self.refused_with("not excluded", controller, ("allow", 0, 1))
        self.refused_with("in use", controller, ("exclude", 0, 0))

    def test_room_after_undoing(self):
        controller = self.full()
        self.same(controller.churn_to((0, 2)), 1)
        self.same(controller.undo(), ("set", (1, 1)))
        self.same(controller.act(("rollback", 29)), 0)
        self.same(controller.earlier(), ())
        self.assertEqual(len(controller.journal()), 30)
        with self.assertRaises(TooLarge):
            controller.act(("pin", 0))

    def test_thirty_earlier_ones(self):
        controller = self.full()
        self.assertEqual(len(controller.earlier()), 30)
        controller.undo()
        self.refused_with("too far", controller, ("rollback", 30))
        self.same(controller.act(("rollback", 29)), 0)
