"""Journals: replaying them, and judging the records of their actions."""

from leastmoved.actions import MOST_ACTIONS, changed_state, hindrance, is_action, new_state, outcome, pins_of
from leastmoved.assignments import is_assignment
from leastmoved.checks import check_sizes, require
from leastmoved.controller import Controller
from leastmoved.keeping import is_best


def is_journal(value, variants, buckets):
    """Return True if the value is a tuple of at most 30 actions for these sizes."""
    if not isinstance(value, tuple) or len(value) > MOST_ACTIONS:
        return False
    return all([is_action(action, variants, buckets, MOST_ACTIONS) for action in value])


def replayed(variants, buckets, journal):
    """Return a controller that has made the actions of the journal one after another."""
    controller = Controller(variants, buckets)
    require(is_journal(journal, variants, buckets), "journal")
    for action in journal:
        controller.act(action)
    return controller


def is_right_outcome(variants, state, action, assignment, levels):
    """Return True if a possible action may lead from the state to the assignment, as the levels show."""
    if action[0] == "set":
        return is_best(action[1], state.current, state.barred, pins_of(state), assignment, levels)
    if levels is not None or not is_assignment(assignment, variants, len(state.current)):
        return False
    given, _ = outcome(state, action)
    return assignment == given


def is_right(variants, buckets, farthest, state, record):
    """Return True if the record is right in the state; no rollback in it goes beyond this number."""
    if not isinstance(record, tuple) or len(record) != 3:
        return False
    action, assignment, levels = record
    if not is_action(action, variants, buckets, farthest) or hindrance(state, action) is not None:
        return False
    return is_right_outcome(variants, state, action, assignment, levels)


def are_right(variants, buckets, records):
    """Return True if the records are right for so many buckets and variants."""
    check_sizes(variants, buckets)
    if not isinstance(records, tuple):
        return False
    state = new_state(buckets)
    for record in records:
        # There are never more earlier assignments than records, so no possible rollback goes farther.
        if not is_right(variants, buckets, len(records), state, record):
            return False
        state = changed_state(state, record[0], record[1])
    return True
