"""The examples of the document, as they stand there, and those of README.md."""

import doctest
from pathlib import Path

README = Path(__file__).resolve().parent.parent / "README.md"

ASSIGNMENTS = """
>>> from leastmoved.allocations import apportioned, deviation, is_nearest, medians, transfer
>>> from leastmoved.assignments import allocation_of, churn, flows, moves, rearranged, renamed
>>> transfer((2, 2, 0), (1, 1, 2)), medians((2, 2, 0), (1, 1, 2), (4, 0, 0))
(2, (2, 1, 0))
>>> apportioned((1, 1, 1), 4), deviation((1, 1, 1), (2, 1, 1))
((2, 1, 1), (4, 3))
>>> is_nearest((1, 1, 1), (1, 2, 1)), is_nearest((1, 1, 1), (2, 2, 0))
(True, False)
>>> allocation_of((0, 0, 2, 1), 3)
(2, 1, 1)
>>> churn((0, 0, 2, 1), (0, 2, 2, 0)), moves((0, 0, 2, 1), (0, 2, 2, 0))
(2, [(1, 0, 2), (3, 1, 0)])
>>> flows((0, 0, 2, 1), (0, 2, 2, 0), 3)
((1, 0, 1), (1, 0, 0), (0, 0, 1))
>>> renamed((0, 0, 2, 1), (1, 0, 2, 3, 4)), rearranged((0, 0, 2, 1), (3, 2, 1, 0))
((1, 1, 2, 0), (1, 2, 0, 0))
"""

EXAMPLES = {"assignments": ASSIGNMENTS, "README.md": README.read_text("utf-8")}


def load_tests(loader, tests, pattern):
    parser = doctest.DocTestParser()
    for name, text in EXAMPLES.items():
        example = parser.get_doctest(text, {}, name, name, 0)
        tests.addTest(doctest.DocTestCase(example))
    return tests
