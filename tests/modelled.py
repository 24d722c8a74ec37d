"""A controller as the document words it, with lists of everything, to compare with."""

from itertools import product

from tests.brute import all_allocations, assignments_of, bound_told, kept_in, moved, shares_of


class Refused(Exception):
    """An action is not possible; the only argument is the word."""


class Model:
    """The state as promise 123 tells it. Undoing makes all actions but the last one again."""

    def __init__(self, variants, buckets):
        self.sizes = (variants, buckets)
        self.row = (0,) * buckets
        self.pinned, self.excluded = set(), set()
        self.past, self.numbers = [], [0] * buckets
        self.done, self.records = [], []

    def is_permitted(self, row):
        return all(row[b] == self.row[b] for b in self.pinned) and not any(row[b] == v for b, v in self.excluded)

    def permitted_ones(self, allocation):
        return [row for row in assignments_of(allocation) if self.is_permitted(row)]

    def least(self, allocation):
        """The first one of the permitted assignments with the least churn, or None."""
        found = self.permitted_ones(allocation)
        return min(found, key=lambda row: moved(self.row, row)) if found else None

    def refuse(self, condition, word):
        if condition:
            raise Refused(word)

    def act(self, action):
        before = self.row
        levels = getattr(self, "do_" + action[0])(*action[1:])
        self.numbers = [n + (a != b) for n, a, b in zip(self.numbers, before, self.row)]
        self.done.append(action)
        self.records.append((action, self.row, levels))
        return moved(before, self.row)

    def do_set(self, allocation):
        best = self.least(allocation)
        self.refuse(best is None, "allocation")
        levels = self.first_levels(allocation, best)
        self.past.insert(0, self.row)
        self.row = best
        return levels

    def first_levels(self, allocation, best):
        pins = tuple((b, self.row[b]) for b in sorted(self.pinned))
        told = (allocation, self.row, tuple(sorted(self.excluded)), pins)
        for levels in product(range(self.sizes[0]), repeat=self.sizes[0]):
            if bound_told(*told, levels) == kept_in(self.row, best):
                return levels

    def do_pin(self, bucket):
        self.refuse(bucket in self.pinned, "pinned")
        self.pinned.add(bucket)

    def do_unpin(self, bucket):
        self.refuse(bucket not in self.pinned, "not pinned")
        self.pinned.remove(bucket)

    def do_exclude(self, bucket, variant):
        self.refuse(self.row[bucket] == variant, "in use")
        self.refuse((bucket, variant) in self.excluded, "excluded")
        self.excluded.add((bucket, variant))

    def do_allow(self, bucket, variant):
        self.refuse((bucket, variant) not in self.excluded, "not excluded")
        self.excluded.remove((bucket, variant))

    def do_rollback(self, number):
        self.refuse(number > len(self.past), "too far")
        self.refuse(not self.is_permitted(self.past[number - 1]), "not permitted")
        self.row = self.past[number - 1]
        del self.past[:number]

    def undo(self):
        if not self.done:
            return None
        actions, last = self.done[:-1], self.done[-1]
        self.__init__(*self.sizes)
        for action in actions:
            self.act(action)
        return last

    def told(self):
        """What the methods of a controller without arguments return."""
        return {
            "assignment": self.row, "allocation": shares_of(self.row, self.sizes[0]), "changes": tuple(self.numbers),
            "pins": tuple(sorted(self.pinned)), "excluded": tuple(sorted(self.excluded)), "earlier": tuple(self.past),
            "journal": tuple(self.done), "records": tuple(self.records)}


WORDLESS = ("assignment", "allocation", "changes", "pins", "excluded", "earlier", "journal", "records")


def told_by(controller):
    """What the methods of the controller without arguments return."""
    return {name: getattr(controller, name)() for name in WORDLESS}


def random_action(random, model):
    """Some action for the sizes of the model, possible or not."""
    variants, buckets = model.sizes
    word = random.choice(("set", "set", "set", "pin", "unpin", "exclude", "exclude", "allow", "rollback"))
    if word == "set":
        return (word, random.choice(all_allocations(variants, buckets)))
    if word == "rollback":
        return (word, random.randint(1, 3))
    if buckets == 0:
        return ("rollback", 1)
    if word in ("pin", "unpin"):
        known = sorted(model.pinned)
        return (word, random.choice(known) if known and random.random() < 0.5 else random.randrange(buckets))
    known = sorted(model.excluded)
    if known and random.random() < 0.5:
        return (word,) + random.choice(known)
    return (word, random.randrange(buckets), random.randrange(variants))
