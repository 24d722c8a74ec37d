"""The examples of the document, as they stand there, and those of README.md."""

import doctest
from pathlib import Path

README = Path(__file__).resolve().parent.parent / "README.md"

ASSIGNMENTS = """
>>> from leastmoved.allocations import apportioned, deviation, is_nearest, medians, transfer
>>> from leastmoved.assignments import allocation_of, churn, flows, moves, rearranged, renamed
>>> transfer((2, 2, 0), (1, 1, 2)), medians((2, 2, 0), (1, 1, 2), (4, 0, 0))
(2, (2, 1, 0))
>>> apportioned((1, 1, 1), 4), deviation((1, 1, 1), (2, 1, 1))
((2, 1, 1), (4, 3))
>>> is_nearest((1, 1, 1), (1, 2, 1)), is_nearest((1, 1, 1), (2, 2, 0))
(True, False)
>>> allocation_of((0, 0, 2, 1), 3)
(2, 1, 1)
>>> churn((0, 0, 2, 1), (0, 2, 2, 0)), moves((0, 0, 2, 1), (0, 2, 2, 0))
(2, [(1, 0, 2), (3, 1, 0)])
>>> flows((0, 0, 2, 1), (0, 2, 2, 0), 3)
((1, 0, 1), (1, 0, 0), (0, 0, 1))
>>> renamed((0, 0, 2, 1), (1, 0, 2, 3, 4)), rearranged((0, 0, 2, 1), (3, 2, 1, 0))
((1, 1, 2, 0), (1, 2, 0, 0))
"""

CHANGES = """
>>> from leastmoved.changes import choices, excess, first_change, needless
>>> from leastmoved.counting import count_changes, index_of, next_change, nth_change
>>> first_change((1, 2, 1), (0, 0, 1, 1))
(0, 2, 1, 1)
>>> count_changes((1, 2, 1), (0, 0, 1, 1)), nth_change((1, 2, 1), (0, 0, 1, 1), 1)
(2, (2, 0, 1, 1))
>>> excess((1, 2, 1), (0, 0, 1, 1), (0, 1, 1, 2)), needless(3, (0, 0, 1, 1), (0, 1, 1, 2))
(1, (1, 'enters'))
>>> choices((1, 1, 4), (0, 1, 0, 2, 1, 0), 1)
(1, 2)
>>> index_of((1, 2, 1), (0, 0, 1, 1), (0, 1, 1, 2)) is None
True
>>> next_change((1, 2, 1), (0, 0, 1, 1), (0, 2, 1, 1), 0)
(2, 0, 1, 1)
"""

PRIORITIES = """
>>> from leastmoved.extending import allowed, extension, is_obstruction, obstruction
>>> from leastmoved.priorities import first_lists, gives, served, unlike_pair
>>> table = ((0, 0, 1, 1), (0, 2, 1, 1))
>>> unlike_pair(3, table) is None, first_lists(3, table)
(True, ((0, 1, 2, 3), (2, 3, 0, 1), (1, 0, 2, 3)))
>>> gives(3, table, ((0, 1), (3, 2), (1,)))
True
>>> served(3, first_lists(3, table), (0, 2, 2)), served(3, first_lists(3, table), (1, 1, 2))
((2, 2, 1, 1), None)
>>> allowed(3, table, (1, 1, 2), 2), extension(3, table, (1, 1, 2))
((1, 2), (0, 2, 1, 2))
>>> obstruction(3, ((0, 0, 1, 1), (0, 0, 2, 2)), (1, 2, 1))
((0,), (0, 1))
>>> is_obstruction(3, ((0, 0, 1, 1), (0, 0, 2, 2)), (1, 2, 1), ((0,), (0, 1)))
True
"""

TRIPLES = """
>>> from leastmoved.triples import accepts_return, accepts_three, all_different, bridge, excess, return_cost, table_of_three
>>> first, second, third = (1, 1, 0), (1, 0, 1), (0, 1, 1)
>>> excess(first, second, third), table_of_three(first, second, third), return_cost(first, second, third)
(1, None, 2)
>>> accepts_three(first, second, third, ("medians", (1, 1, 1)))
True
>>> accepts_return(first, second, third, ((0, 1), (0, 2), (1, 2)))
True
>>> accepts_return(first, second, third, ((0, 1), (0, 2), (2, 1)))
False
>>> all_different((4, 0, 0), (0, 4, 0), (0, 0, 4))
4
>>> bridge((3, 1), (1, 3), (2, 2))
(2, 2)
>>> accepts_three((3, 1), (1, 3), (2, 2), ("table", ((0, 1, 0, 0), (0, 1, 1, 1), (0, 1, 1, 0))))
True
"""

PLANS = """
>>> from leastmoved.conflicts import accepts_tree, least_conflict, most_pairs, tree_against
>>> from leastmoved.plans import bad_triples, first_cycle, first_table, kept_pairs
>>> three = ((1, 1, 0), (1, 0, 1), (0, 1, 1))
>>> pairs = ((0, 1), (0, 2), (1, 2))
>>> first_table(three, ((0, 1), (1, 2)))
((0, 1), (0, 2), (1, 2))
>>> first_table(three, pairs) is None, bad_triples(three, pairs), first_cycle(three, pairs)
(True, [(0, 1, 2)], (0, 1, 2))
>>> kept_pairs(three, pairs, ((0, 1), (0, 2), (1, 2)))
(0, 2)
>>> most_pairs(three, pairs)
((0, 1), ((0, 1), (0, 2), (2, 1)))
>>> least_conflict(three, pairs)
(0, 1, 2)
>>> accepts_tree(three, pairs, tree_against(three, pairs)), accepts_tree(three, pairs, ("full", 0, 0))
(True, False)
>>> five = ((1, 1, 0, 0, 0), (0, 1, 1, 0, 0), (0, 0, 1, 1, 0), (0, 0, 0, 1, 1), (1, 0, 0, 0, 1))
>>> least_conflict(five, ((0, 1), (1, 2), (2, 3), (3, 4), (0, 4)))
(0, 1, 2, 3, 4)
"""

HISTORIES = """
>>> from leastmoved.histories import calm_history, changes_of, decreases, direct, first_history, first_turn
>>> from leastmoved.histories import least_limit, overdrawn, total, within, wrong_step
>>> down = ((2, 0), (1, 1), (2, 0))
>>> total(down), direct(down), first_turn(down), decreases(down)
(2, 0, (0, 1), (1, 1))
>>> calm_history(down) is None, overdrawn(down)
(True, 1)
>>> calm_history(((1, 1), (0, 2), (1, 1)))
((0, 1), (1, 1), (1, 0))
>>> first_history(down), changes_of(down, ((0, 0), (0, 1), (0, 0)))
(((0, 0), (0, 1), (0, 0)), (0, 2))
>>> least_limit(((2, 0), (1, 1), (2, 0), (1, 1), (2, 0)))
(2, ((0, 0), (0, 1), (0, 0), (1, 0), (0, 0)))
>>> within(down, 1) is None, wrong_step(down, ((0, 0), (0, 1), (0, 0))) is None
(True, True)
"""

RULES = """
>>> from leastmoved.continuing import accepts_none, allowed_variants, continuation, why_none
>>> from leastmoved.rules import lists_of_rule, most_waste, needless_leave, serves_rule
>>> steady = (((1, 1, 0), (1, 0)), ((1, 0, 1), (0, 2)), ((0, 1, 1), (1, 2)))
>>> lists_of_rule(3, 2, steady), most_waste(3, 2, steady)
(((0,), (1,)), (0, 1, 2, 1))
>>> thrifty = (((1, 1, 0), (1, 0)), ((1, 0, 1), (2, 0)))
>>> continuation(3, 2, thrifty, (0, 1, 1)) is None, allowed_variants(3, 2, thrifty, (0, 1, 1))
(True, ((), (0,)))
>>> why_none(3, 2, thrifty, (0, 1, 1))
('short', (), (0,))
>>> accepts_none(3, 2, thrifty, (0, 1, 1), ("short", (0,), (1,)))
True
>>> needless_leave(3, 2, (((1, 1, 0), (0, 1)), ((0, 1, 1), (1, 2))))
(0, 1, 1)
>>> serves_rule(3, 2, steady, ((0, 1), (1,)))
True
"""

POPULATIONS = """
>>> from leastmoved.fewest import accepts_few, accepts_fewest, fewest, lists_for, needed
>>> from leastmoved.populations import coexist, fault, greatest_clique
>>> family = ((1, 1, 0), (1, 0, 1), (0, 1, 1))
>>> greatest_clique(4, family), coexist(4, family, (1, 0), (3, 0))
((3, (1, 1, 1)), True)
>>> fewest(4, family)[:2]
(3, ((0,), (1,), (2,)))
>>> accepts_fewest(4, family, (3, ((0,), (1,), (2,)), ("clique", ((1, 0), (2, 0), (3, 0)))))
True
>>> fault(4, family, ((0,), (1,), (0,)))
(1, (1, 3), 0)
>>> fewest(3, ((3, 1), (1, 3)))[:2]
(4, ((0, 1, 2), (3, 1, 2)))
>>> needed(4, 3), lists_for(4, 3)
(4, ((0, 3, 1), (1, 3, 2), (2, 3, 0)))
>>> ring = ((1, 1, 0, 0), (0, 1, 1, 0), (0, 0, 1, 1), (1, 0, 0, 1))
>>> greatest_clique(5, ring)[0], fewest(5, ring)[:2]
(2, (2, ((0,), (1,), (0,), (1,))))
>>> accepts_few(5, ring, 1, ("clique", ((1, 0), (2, 0))))
True
"""

THRESHOLDS = """
>>> from leastmoved.thresholds import best_order, boundaries, by_intervals, interval_churn, interval_moves, waste
>>> by_intervals((2, 1, 3), (1, 0, 2)), boundaries((2, 1, 3), (1, 0, 2))
((1, 0, 0, 2, 2, 2), (1, 3))
>>> interval_churn((4, 4, 4), (2, 4, 6), (0, 1, 2)), waste((4, 4, 4), (2, 4, 6), (0, 1, 2))
(4, 2)
>>> interval_moves((4, 4, 4), (2, 4, 6), (0, 1, 2))
[(0, 1, 2, 2), (1, 2, 6, 2)]
>>> best_order(((4, 4, 4), (2, 4, 6)))
((0, 2, 1), 2, 2)
>>> best_order(((2, 2, 2, 2), (5, 1, 1, 1)))
((1, 0, 2, 3), 4, 3)
"""

EXCLUSIONS = """
>>> from leastmoved.exclusions import first_possible, is_too_small, too_small
>>> from leastmoved.keeping import bound_by, is_best, levels_for, most_kept
>>> forbidden = ((0, 2), (1, 2))
>>> most_kept((1, 1, 2), (0, 0, 1, 2), forbidden, ())
(2, (0, 1, 2, 2))
>>> bound_by((1, 1, 2), (0, 0, 1, 2), forbidden, (), (1, 0, 0))
3
>>> levels_for((1, 1, 2), (0, 0, 1, 2), forbidden, ())
(2, 1, 0)
>>> is_best((1, 1, 2), (0, 0, 1, 2), forbidden, (), (0, 1, 2, 2), (2, 1, 0))
True
>>> too_small((1, 3), ((0, 1), (1, 1))), first_possible((1, 3), ((0, 1), (1, 1)))
(((0,), (0, 1)), None)
>>> is_too_small((1, 3), ((0, 1), (1, 1)), ((0,), (0, 1)))
True
>>> most_kept((2, 2), (0, 0, 1, 1), (), ((0, 1),))
(2, (1, 0, 0, 1))
"""

CONTROLLER = """
>>> from leastmoved.controller import Controller
>>> from leastmoved.journals import are_right, replayed
>>> controller = Controller(3, 4)
>>> controller.act(("set", (2, 1, 1))), controller.assignment()
(2, (0, 0, 1, 2))
>>> controller.act(("set", (1, 2, 1))), controller.assignment()
(1, (0, 1, 1, 2))
>>> controller.act(("pin", 0)), controller.churn_to((0, 3, 1)), controller.churn_to((2, 1, 1))
(0, None, 1)
>>> controller.act(("rollback", 1)), controller.assignment(), controller.changes()
(1, (0, 0, 1, 2), (0, 2, 1, 1))
>>> controller.records()[1]
(('set', (1, 2, 1)), (0, 1, 1, 2), (1, 0, 0))
>>> are_right(3, 4, controller.records()), replayed(3, 4, controller.journal()).earlier()
(True, ((0, 0, 0, 0),))
>>> are_right(3, 4, ((("set", (2, 1, 1)), (1, 2, 0, 0), (2, 0, 0)),))
False
"""

TEXTS = """
>>> from leastmoved.reading import next_tokens, read_assignment, read_shares
>>> from leastmoved.writing import allocation_of_shares, assignment_text, shares_text
>>> shares = read_shares("control 50, blue 30.25,red 79/400")
>>> shares
(('control', (1, 2)), ('blue', (121, 400)), ('red', (79, 400)))
>>> shares_text(shares)
'control 50, blue 30.25, red 19.75'
>>> allocation_of_shares(shares, 10)
(5, 3, 2)
>>> shares_text((("a", (1, 3)), ("b", (2, 3))))
'a 1/3, b 2/3'
>>> read_assignment("0*3 2 1*2", 3), assignment_text((0, 0, 0, 2, 1, 1))
((0, 0, 0, 2, 1, 1), '0*3 2 1*2')
>>> next_tokens("blue 30", "shares")
['","', '"."', '"/"', 'the end']
>>> next_tokens("0*3 2", "assignment")
['a number', '"*"', 'the end']
"""

# Where the document says "raises TextError", a doctest has a traceback.
WRONG_TEXT = """
>>> from leastmoved.reading import read_shares
>>> read_shares("a 50, b 60")
Traceback (most recent call last):
leastmoved.errors.TextError: column 11: the total is not the whole
"""

EXAMPLES = {
    "assignments": ASSIGNMENTS,
    "changes": CHANGES,
    "priorities": PRIORITIES,
    "triples": TRIPLES,
    "plans": PLANS,
    "histories": HISTORIES,
    "rules": RULES,
    "populations": POPULATIONS,
    "thresholds": THRESHOLDS,
    "exclusions": EXCLUSIONS,
    "controller": CONTROLLER,
    "texts": TEXTS,
    "wrong text": WRONG_TEXT,
    "README.md": README.read_text("utf-8"),
}


def load_tests(loader, tests, pattern):
    parser = doctest.DocTestParser()
    for name, text in EXAMPLES.items():
        example = parser.get_doctest(text, {}, name, name, 0)
        tests.addTest(doctest.DocTestCase(example))
    return tests
