"""Writing shares and assignments as texts, and the allocations of shares."""

from math import gcd

from leastmoved.allocations import by_largest_rests
from leastmoved.assignments import check_assignment
from leastmoved.checks import MOST_BUCKETS, MOST_VARIANTS, are_integers, is_integer, require
from leastmoved.quotients import GREATEST_DIVISOR, are_the_whole, weights_of
from leastmoved.scanning import is_name


def is_share(value):
    """Return True if the value is a pair (n, d) in lowest terms with 0 <= n <= d and 1 <= d <= 10000."""
    if not are_integers(value, 0, GREATEST_DIVISOR) or len(value) != 2:
        return False
    number, divisor = value
    # This refuses a divisor of 0, too: beside it the number is 0, and gcd(0, 0) is 0.
    return number <= divisor and gcd(number, divisor) == 1


def is_named_share(value):
    """Return True if the value is a pair of a name and a share."""
    if not isinstance(value, tuple) or len(value) != 2:
        return False
    return isinstance(value[0], str) and is_name(value[0]) and is_share(value[1])


def is_shares(value):
    """Return True if the value is shares."""
    if not isinstance(value, tuple) or not 1 <= len(value) <= MOST_VARIANTS:
        return False
    if not all([is_named_share(pair) for pair in value]):
        return False
    names = [name for name, _ in value]
    return len(set(names)) == len(names) and are_the_whole([share for _, share in value])


def hundredths_text(many):
    """Return the text in hundredths of so many ten-thousandths."""
    rest = many % 100
    if rest == 0:
        return str(many // 100)
    digits = str(rest).zfill(2).rstrip("0")
    return f"{many // 100}.{digits}"


def share_text(share):
    """Return the text of a share."""
    number, divisor = share
    if number * GREATEST_DIVISOR % divisor == 0:
        return hundredths_text(number * GREATEST_DIVISOR // divisor)
    return f"{number}/{divisor}"


def shares_text(shares):
    """Return the text of the shares."""
    require(is_shares(shares), "shares")
    return ", ".join([f"{name} {share_text(share)}" for name, share in shares])


def runs_of(assignment):
    """Return the list of (variant, number of buckets) of the runs, as few as possible."""
    runs = []
    for variant in assignment:
        if runs and runs[-1][0] == variant:
            runs[-1] = (variant, runs[-1][1] + 1)
        else:
            runs.append((variant, 1))
    return runs


def assignment_text(assignment):
    """Return the text of the assignment."""
    check_assignment(assignment, "assignment")
    return " ".join([f"{variant}*{many}" if many > 1 else str(variant) for variant, many in runs_of(assignment)])


def allocation_of_shares(shares, buckets):
    """Return the allocation of the shares by largest rests."""
    require(is_shares(shares), "shares")
    require(is_integer(buckets, 0, MOST_BUCKETS), "buckets")
    return by_largest_rests(weights_of([share for _, share in shares]), buckets)
