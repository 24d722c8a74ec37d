"""The examples of the document, as they stand there, and those of README.md."""

import doctest
from pathlib import Path

README = Path(__file__).resolve().parent.parent / "README.md"

ASSIGNMENTS = """
>>> from leastmoved.allocations import apportioned, deviation, is_nearest, medians, transfer
>>> from leastmoved.assignments import allocation_of, churn, flows, moves, rearranged, renamed
>>> transfer((2, 2, 0), (1, 1, 2)), medians((2, 2, 0), (1, 1, 2), (4, 0, 0))
(2, (2, 1, 0))
>>> apportioned((1, 1, 1), 4), deviation((1, 1, 1), (2, 1, 1))
((2, 1, 1), (4, 3))
>>> is_nearest((1, 1, 1), (1, 2, 1)), is_nearest((1, 1, 1), (2, 2, 0))
(True, False)
>>> allocation_of((0, 0, 2, 1), 3)
(2, 1, 1)
>>> churn((0, 0, 2, 1), (0, 2, 2, 0)), moves((0, 0, 2, 1), (0, 2, 2, 0))
(2, [(1, 0, 2), (3, 1, 0)])
>>> flows((0, 0, 2, 1), (0, 2, 2, 0), 3)
((1, 0, 1), (1, 0, 0), (0, 0, 1))
>>> renamed((0, 0, 2, 1), (1, 0, 2, 3, 4)), rearranged((0, 0, 2, 1), (3, 2, 1, 0))
((1, 1, 2, 0), (1, 2, 0, 0))
"""

CHANGES = """
>>> from leastmoved.changes import choices, excess, first_change, needless
>>> from leastmoved.counting import count_changes, index_of, next_change, nth_change
>>> first_change((1, 2, 1), (0, 0, 1, 1))
(0, 2, 1, 1)
>>> count_changes((1, 2, 1), (0, 0, 1, 1)), nth_change((1, 2, 1), (0, 0, 1, 1), 1)
(2, (2, 0, 1, 1))
>>> excess((1, 2, 1), (0, 0, 1, 1), (0, 1, 1, 2)), needless(3, (0, 0, 1, 1), (0, 1, 1, 2))
(1, (1, 'enters'))
>>> choices((1, 1, 4), (0, 1, 0, 2, 1, 0), 1)
(1, 2)
>>> index_of((1, 2, 1), (0, 0, 1, 1), (0, 1, 1, 2)) is None
True
>>> next_change((1, 2, 1), (0, 0, 1, 1), (0, 2, 1, 1), 0)
(2, 0, 1, 1)
"""

PRIORITIES = """
>>> from leastmoved.extending import allowed, extension, is_obstruction, obstruction
>>> from leastmoved.priorities import first_lists, gives, served, unlike_pair
>>> table = ((0, 0, 1, 1), (0, 2, 1, 1))
>>> unlike_pair(3, table) is None, first_lists(3, table)
(True, ((0, 1, 2, 3), (2, 3, 0, 1), (1, 0, 2, 3)))
>>> gives(3, table, ((0, 1), (3, 2), (1,)))
True
>>> served(3, first_lists(3, table), (0, 2, 2)), served(3, first_lists(3, table), (1, 1, 2))
((2, 2, 1, 1), None)
>>> allowed(3, table, (1, 1, 2), 2), extension(3, table, (1, 1, 2))
((1, 2), (0, 2, 1, 2))
>>> obstruction(3, ((0, 0, 1, 1), (0, 0, 2, 2)), (1, 2, 1))
((0,), (0, 1))
>>> is_obstruction(3, ((0, 0, 1, 1), (0, 0, 2, 2)), (1, 2, 1), ((0,), (0, 1)))
True
"""

EXAMPLES = {
    "assignments": ASSIGNMENTS,
    "changes": CHANGES,
    "priorities": PRIORITIES,
    "README.md": README.read_text("utf-8"),
}


def load_tests(loader, tests, pattern):
    parser = doctest.DocTestParser()
    for name, text in EXAMPLES.items():
        example = parser.get_doctest(text, {}, name, name, 0)
        tests.addTest(doctest.DocTestCase(example))
    return tests
