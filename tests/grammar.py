"""Texts as the document words them: tokens by patterns, and texts of both grammars by expanding them."""

import re
from itertools import product

KINDS = {"name": r"[a-z][a-z0-9_]*", "number": r"[0-9]+", "sign": r"[,.*/]"}
PATTERN = re.compile("|".join(f"(?P<{kind}>{pattern})" for kind, pattern in KINDS.items()))
ORDER = ["a name", "a number", '","', '"."', '"*"', '"/"', "the end"]


def scanned(text):
    """The tokens, or the column and the words of the first problem."""
    tokens, at = [], 0
    while at < len(text):
        if text[at] == " ":
            at += 1
            continue
        found = PATTERN.match(text, at)
        if found is None:
            return (at + 1, "no token begins here")
        kind, characters = found.lastgroup, found.group()
        if kind == "name" and len(characters) > 12:
            return (at + 1, "a name has at most 12 characters")
        if kind == "number" and len(characters) > 6:
            return (at + 1, "a number has at most 6 digits")
        tokens.append((kind, characters, at + 1))
        at = found.end()
    return tokens + [("end", "", len(text) + 1)]


def word_told(token):
    """The word of promise 137 for a token."""
    kind, characters, _ = token
    return {"name": "a name", "number": "a number", "end": "the end"}.get(kind) or '"' + characters + '"'


def sequences(kind, most):
    """The words of all texts of the kind with up to so many shares or runs, expanded from the grammar."""
    if kind == "shares":
        heads = [["a name", "a number"] + tail for tail in ([], ['"."', "a number"], ['"/"', "a number"])]
        smallest, between = 1, ['","']
    else:
        heads = [["a number"], ["a number", '"*"', "a number"]]
        smallest, between = 0, []
    for many in range(smallest, most + 1):
        for chosen in product(heads, repeat=many):
            row = []
            for each in chosen:
                row = row + (between if row else []) + each
            yield tuple(row) + ("the end",)


WHOLE_ROWS = {kind: list(sequences(kind, 5)) for kind in ("shares", "assignment")}
# These have fewer shares or runs, so that all that can come behind them stands in the rows above.
SHORT_ROWS = {kind: list(sequences(kind, 3)) for kind in ("shares", "assignment")}


def can_follow(kind, words):
    """What can come behind these words, in the order of promise 137; they have at most four shares or runs."""
    following = {row[len(words)] for row in WHOLE_ROWS[kind] if row[:len(words)] == tuple(words) and len(row) > len(words)}
    return [word for word in ORDER if word in following]


def told_as(words):
    """The words of the problem of promise 137."""
    if len(words) == 1:
        return "expected " + words[0]
    return "expected " + ", ".join(words[:-1]) + " or " + words[-1]


def problem_of(kind, tokens):
    """The column and the words of the first token that cannot come, or None."""
    words = []
    for token in tokens:
        possible = can_follow(kind, words)
        if word_told(token) not in possible:
            return (token[2], told_as(possible))
        words.append(word_told(token))
    return None
