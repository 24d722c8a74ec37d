"""The actions of a controller, and the states that they lead to."""

from leastmoved.allocations import is_allocation
from leastmoved.checks import are_integers
from leastmoved.exclusions import is_pairing
from leastmoved.fitting import first_shortage
from leastmoved.keeping import left_open, levels_for, most_kept

MOST_ACTIONS = 30


class State:
    """What a controller keeps; it is never changed, each action leads to another one."""

    def __init__(self, current, pinned, barred, past, counts):
        self.current = current
        self.pinned = pinned
        self.barred = barred
        self.past = past
        self.counts = counts


def new_state(buckets):
    """Return the state of a new controller."""
    return State((0,) * buckets, (), (), (), (0,) * buckets)


def is_action(value, variants, buckets, farthest):
    """Return True if the value is an action for these sizes that rolls back no farther than this number."""
    if not isinstance(value, tuple) or len(value) == 0:
        return False
    word, rest = value[0], value[1:]
    if word == "set":
        return len(rest) == 1 and is_allocation(rest[0], variants, buckets)
    if word in ("exclude", "allow"):
        return is_pairing(rest, variants, buckets)
    if word in ("pin", "unpin"):
        return len(rest) == 1 and are_integers(rest, 0, buckets - 1)
    return word == "rollback" and len(rest) == 1 and are_integers(rest, 1, farthest)


def pins_of(state):
    """Return the pinned buckets with the variants that they have, as pins."""
    return tuple([(bucket, state.current[bucket]) for bucket in state.pinned])


def is_permitted(state, assignment):
    """Return True if the assignment is permitted."""
    if not all([assignment[bucket] == variant for bucket, variant in pins_of(state)]):
        return False
    return not any([assignment[bucket] == variant for bucket, variant in state.barred])


def set_hindrance(state, allocation):
    """Return the word that tells why the allocation cannot be set, or None if it can."""
    short = first_shortage(allocation, left_open(allocation, state.barred, pins_of(state)))
    return None if short is None else "allocation"


def exclude_hindrance(state, pair):
    """Return the word that tells why the pair cannot be excluded, or None if it can."""
    bucket, variant = pair
    if state.current[bucket] == variant:
        return "in use"
    return "excluded" if pair in state.barred else None


def rollback_hindrance(state, number):
    """Return the word that tells why the assignment cannot be rolled back, or None if it can."""
    if number > len(state.past):
        return "too far"
    return None if is_permitted(state, state.past[number - 1]) else "not permitted"


def hindrance(state, action):
    """Return the word that tells why the action is not possible, or None if it is."""
    word = action[0]
    if word == "set":
        return set_hindrance(state, action[1])
    if word == "rollback":
        return rollback_hindrance(state, action[1])
    if word == "exclude":
        return exclude_hindrance(state, action[1:])
    if word == "allow":
        return None if action[1:] in state.barred else "not excluded"
    if word == "pin":
        return "pinned" if action[1] in state.pinned else None
    return None if action[1] in state.pinned else "not pinned"


def outcome(state, action):
    """Return the assignment that the action gives if it is possible, and for "set" the first levels."""
    if action[0] == "set":
        allocation, pins = action[1], pins_of(state)
        _, assignment = most_kept(allocation, state.current, state.barred, pins)
        return (assignment, levels_for(allocation, state.current, state.barred, pins))
    if action[0] == "rollback":
        return (state.past[action[1] - 1], None)
    return (state.current, None)


def past_after(state, action):
    """Return the earlier assignments after the action."""
    if action[0] == "set":
        return (state.current,) + state.past
    if action[0] == "rollback":
        return state.past[action[1]:]
    return state.past


def without(rows, row):
    """Return the tuple of the other rows."""
    return tuple([each for each in rows if each != row])


def pinned_after(state, action):
    """Return the pinned buckets after the action, ascending."""
    if action[0] == "pin":
        return tuple(sorted(state.pinned + (action[1],)))
    if action[0] == "unpin":
        return without(state.pinned, action[1])
    return state.pinned


def barred_after(state, action):
    """Return the excluded pairs after the action, ascending."""
    if action[0] == "exclude":
        return tuple(sorted(state.barred + (action[1:],)))
    if action[0] == "allow":
        return without(state.barred, action[1:])
    return state.barred


def changed_state(state, action, assignment):
    """Return the state after a possible action that gives this assignment."""
    changed = zip(state.counts, state.current, assignment)
    counts = tuple([count if old == new else count + 1 for count, old, new in changed])
    pinned, barred = pinned_after(state, action), barred_after(state, action)
    return State(assignment, pinned, barred, past_after(state, action), counts)
