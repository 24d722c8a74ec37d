"""A controller: an assignment that is kept up to date by actions."""

from leastmoved.actions import MOST_ACTIONS, changed_state, hindrance, is_action, new_state, outcome, pins_of
from leastmoved.allocations import is_allocation
from leastmoved.assignments import allocation_of, churn
from leastmoved.checks import check_sizes, require
from leastmoved.errors import NotPossible, TooLarge
from leastmoved.keeping import most_kept


class Controller:
    """An assignment with its pinned buckets, excluded pairs, earlier assignments and journal."""

    def __init__(self, variants, buckets):
        check_sizes(variants, buckets)
        self.variants = variants
        self.buckets = buckets
        # One state more than there are records: the last one is the state now.
        self.states = [new_state(buckets)]
        self.made = []

    def act(self, action):
        """Make the action, and return the churn of the assignments before and after it."""
        require(is_action(action, self.variants, self.buckets, MOST_ACTIONS), "action")
        state = self.states[-1]
        why = hindrance(state, action)
        if why is not None:
            raise NotPossible(why)
        if len(self.made) == MOST_ACTIONS:
            raise TooLarge("journal")
        assignment, levels = outcome(state, action)
        self.states.append(changed_state(state, action, assignment))
        self.made.append((action, assignment, levels))
        return churn(state.current, assignment)

    def undo(self):
        """Take the last action back and return it, or return None if there is none."""
        if not self.made:
            return None
        self.states.pop()
        return self.made.pop()[0]

    def assignment(self):
        """Return the assignment."""
        return self.states[-1].current

    def allocation(self):
        """Return the allocation of the assignment."""
        return allocation_of(self.assignment(), self.variants)

    def changes(self):
        """Return the tuple of the numbers of changes of the buckets."""
        return self.states[-1].counts

    def pins(self):
        """Return the ascending tuple of the pinned buckets."""
        return self.states[-1].pinned

    def excluded(self):
        """Return the ascending tuple of the excluded pairs."""
        return self.states[-1].barred

    def earlier(self):
        """Return the tuple of the earlier assignments, the latest one first."""
        return self.states[-1].past

    def churn_to(self, allocation):
        """Return the churn that setting the allocation would have, or None if it is not possible."""
        require(is_allocation(allocation, self.variants, self.buckets), "allocation")
        state = self.states[-1]
        best = most_kept(allocation, state.current, state.barred, pins_of(state))
        return None if best is None else self.buckets - best[0]

    def journal(self):
        """Return the tuple of the actions that have been made."""
        return tuple([action for action, _, _ in self.made])

    def records(self):
        """Return the tuple of the records of the actions that have been made."""
        return tuple(self.made)
