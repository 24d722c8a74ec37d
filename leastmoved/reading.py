"""Reading texts of shares and of assignments."""

from leastmoved.checks import MOST_BUCKETS, MOST_VARIANTS, check_variants, require
from leastmoved.errors import TextError
from leastmoved.quotients import GREATEST_DIVISOR, are_the_whole, in_lowest_terms
from leastmoved.scanning import check_text, scan

# Each row tells a place in the grammar, the word of a token that can come there, and the place behind it. The rows
# of a place stand in the order in which the words are listed.
SHARES = (
    ("start", "a name", "named"),
    ("named", "a number", "counted"),
    ("counted", '","', "start"),
    ("counted", '"."', "pointed"),
    ("counted", '"/"', "pointed"),
    ("counted", "the end", "ended"),
    ("pointed", "a number", "shared"),
    ("shared", '","', "start"),
    ("shared", "the end", "ended"),
)
ASSIGNMENT = (
    ("start", "a number", "counted"),
    ("start", "the end", "ended"),
    ("counted", "a number", "counted"),
    ("counted", '"*"', "repeated"),
    ("counted", "the end", "ended"),
    ("repeated", "a number", "start"),
)


def word_of(token):
    """Return the word that stands for the token."""
    kind, characters, _ = token
    if kind == "sign":
        return f'"{characters}"'
    return "the end" if kind == "end" else f"a {kind}"


def words_at(grammar, place):
    """Return the list of the words of what can come at the place."""
    return [word for here, word, _ in grammar if here == place]


def either(words):
    """Return the words with commas between them and "or" before the last one."""
    if len(words) == 1:
        return words[0]
    return ", ".join(words[:-1]) + " or " + words[-1]


def place_behind(grammar, place, token):
    """Return the place behind the token, which comes at a place."""
    behind = [after for here, word, after in grammar if here == place and word == word_of(token)]
    if not behind:
        raise TextError(token[2], f"expected {either(words_at(grammar, place))}")
    return behind[0]


def place_after(grammar, tokens):
    """Return the place behind all of the tokens."""
    place = "start"
    for token in tokens:
        place = place_behind(grammar, place, token)
    return place


def next_tokens(text, kind):
    """Return the list of the words of what can come behind the tokens of the text."""
    check_text(text)
    require(kind in ("shares", "assignment"), "kind")
    grammar = SHARES if kind == "shares" else ASSIGNMENT
    return words_at(grammar, place_after(grammar, scan(text)[:-1]))


def parted_at_commas(tokens):
    """Return the list of the lists of the tokens between the commas."""
    rows = [[]]
    for token in tokens:
        if token[1] == ",":
            rows.append([])
        else:
            rows[-1].append(token)
    return rows


def check_share_name(token, known):
    """Raise TextError if the name cannot stand behind the known ones."""
    _, name, column = token
    if len(known) == MOST_VARIANTS:
        raise TextError(column, "there are at most 5 variants")
    if name in known:
        raise TextError(column, "this name stands already")


def quotient_of(tokens):
    """Return the quotient, not in lowest terms, that the tokens of a share behind its name tell."""
    number = int(tokens[0][1])
    if len(tokens) == 1:
        return (number, 100)
    _, digits, column = tokens[2]
    if tokens[1][1] == "/":
        if not 1 <= int(digits) <= GREATEST_DIVISOR:
            raise TextError(column, "a denominator is from 1 to 10000")
        return (number, int(digits))
    if len(digits) > 2:
        raise TextError(column, "at most two digits stand behind the point")
    return (100 * number + int(digits.ljust(2, "0")), 10000)


def share_of(tokens):
    """Return the share that the tokens behind its name tell."""
    number, divisor = quotient_of(tokens)
    if number > divisor:
        raise TextError(tokens[0][2], "a share is at most the whole")
    return in_lowest_terms(number, divisor)


def read_shares(text):
    """Return the shares that the text tells."""
    tokens = scan(text)
    place_after(SHARES, tokens)
    names = []
    shares = []
    for row in parted_at_commas(tokens[:-1]):
        check_share_name(row[0], names)
        names.append(row[0][1])
        shares.append(share_of(row[1:]))
    if not are_the_whole(shares):
        raise TextError(tokens[-1][2], "the total is not the whole")
    return tuple(zip(names, shares))


def parted_in_runs(tokens):
    """Return the list of the lists of the tokens of the runs."""
    rows = []
    for token in tokens:
        if rows and (token[1] == "*" or rows[-1][-1][1] == "*"):
            rows[-1].append(token)
        else:
            rows.append([token])
    return rows


def run_of(row, variants):
    """Return the variant and the number of buckets that the tokens of a run tell."""
    variant = int(row[0][1])
    if variant >= variants:
        raise TextError(row[0][2], "there is no such variant")
    many = int(row[2][1]) if len(row) > 1 else 1
    if many == 0:
        raise TextError(row[2][2], "a run has at least one bucket")
    return (variant, many)


def read_assignment(text, variants):
    """Return the assignment to so many variants that the text tells."""
    check_text(text)
    check_variants(variants)
    tokens = scan(text)
    place_after(ASSIGNMENT, tokens)
    found = []
    for row in parted_in_runs(tokens[:-1]):
        variant, many = run_of(row, variants)
        if len(found) + many > MOST_BUCKETS:
            raise TextError(row[0][2], "there are at most 20 buckets")
        found.extend([variant] * many)
    return tuple(found)
