"""The tokens of texts of shares and of assignments."""

from leastmoved.checks import require
from leastmoved.errors import TextError

MOST_CHARACTERS = 400
LONGEST_NAME = 12
LONGEST_NUMBER = 6
LETTERS = "abcdefghijklmnopqrstuvwxyz"
DIGITS = "0123456789"
IN_NAMES = "abcdefghijklmnopqrstuvwxyz0123456789_"
SIGNS = ",.*/"


def check_text(text):
    """Raise BadValue unless the value is a string of at most 400 characters without newlines."""
    require(isinstance(text, str) and len(text) <= MOST_CHARACTERS and "\n" not in text, "text")


def run_at(text, at, characters):
    """Return the longest part of the text that begins at the place and has these characters only."""
    end = at
    while end < len(text) and text[end] in characters:
        end += 1
    return text[at:end]


def is_name(text):
    """Return True if the string is a name."""
    if not 1 <= len(text) <= LONGEST_NAME or text[0] not in LETTERS:
        return False
    return run_at(text, 0, IN_NAMES) == text


def name_at(text, at):
    """Return the token of the name that begins at the place."""
    name = run_at(text, at, IN_NAMES)
    if len(name) > LONGEST_NAME:
        raise TextError(at + 1, "a name has at most 12 characters")
    return ("name", name, at + 1)


def number_at(text, at):
    """Return the token of the number that begins at the place."""
    number = run_at(text, at, DIGITS)
    if len(number) > LONGEST_NUMBER:
        raise TextError(at + 1, "a number has at most 6 digits")
    return ("number", number, at + 1)


def token_at(text, at):
    """Return the token that begins at the place."""
    if text[at] in LETTERS:
        return name_at(text, at)
    if text[at] in DIGITS:
        return number_at(text, at)
    if text[at] in SIGNS:
        return ("sign", text[at], at + 1)
    raise TextError(at + 1, "no token begins here")


def scan(text):
    """Return the list of the tokens of the text, each as (kind, characters, column), with the end as the last one."""
    check_text(text)
    tokens = []
    at = 0
    while at < len(text):
        if text[at] == " ":
            at += 1
        else:
            token = token_at(text, at)
            tokens.append(token)
            at += len(token[1])
    tokens.append(("end", "", len(text) + 1))
    return tokens
