"""Three allocations: tables of three, returns, and bridges."""

from leastmoved.allocations import check_alike, check_allocation, medians, transfer
from leastmoved.assignments import are_assignments_of, buckets_of, churn, is_assignment_of
from leastmoved.checks import MOST_BUCKETS, are_integers, require


def surplus(first, second, third):
    """Return the total of the medians less the number of buckets, which can be negative."""
    return sum(medians(first, second, third)) - sum(first)


def excess(first, second, third):
    """Return by how much the medians add up to more than the number of buckets, otherwise 0."""
    return max(surplus(first, second, third), 0)


def laid_out(allocation, cores):
    """Return an assignment of the allocation in which each variant begins with the places of its core.

    The cores are consecutive places, as many for each variant as its number says. A variant has
    the first places of its own core; what its share has besides goes to the places that are free then.
    """
    row = []
    over = []
    for variant, core in enumerate(cores):
        share = allocation[variant]
        row.extend([variant] * min(share, core) + [None] * (core - share))
        over.extend([variant] * (share - core))
    row.extend([None] * (sum(allocation) - len(row)))
    for place in range(len(row)):
        if row[place] is None:
            row[place] = over.pop(0)
    return tuple(row)


def table_of_three(first, second, third):
    """Return a table of three, or None if there is none."""
    if surplus(first, second, third) > 0:
        return None
    # A bucket that has a variant in two of the assignments is one of its core, so no change goes back and forth.
    cores = medians(first, second, third)
    return (laid_out(first, cores), laid_out(second, cores), laid_out(third, cores))


def all_different(first, second, third):
    """Return how many buckets have three different variants in every table of three, or None."""
    over = surplus(first, second, third)
    if over > 0:
        return None
    return -over


def is_least(before, after, old, new):
    """Return True if the churn of the two assignments is the transfer of their allocations."""
    return churn(old, new) == transfer(before, after)


def is_table_of_three(three, value):
    """Return True if the value is a table of the three allocations."""
    if not are_assignments_of(value, three):
        return False
    return all([is_least(three[i], three[j], value[i], value[j]) for i, j in ((0, 1), (0, 2), (1, 2))])


def accepts_three(first, second, third, answer):
    """Return True if the answer is a table of three, or the medians where these show that there is none."""
    middle = medians(first, second, third)
    if not isinstance(answer, tuple) or len(answer) != 2:
        return False
    word, value = answer
    if word == "medians":
        # True is no integer here, though it is equal to 1.
        return are_integers(value, 0, MOST_BUCKETS) and value == middle and sum(middle) > sum(first)
    return word == "table" and is_table_of_three((first, second, third), value)


def return_cost(first, second, third):
    """Return the least churn of the first and the third assignment of a return."""
    over = excess(first, second, third)
    return transfer(first, third) + over


def returning_cores(first, second, third):
    """Return the cores of a return: the medians, less where the buckets do not suffice for them.

    Only a variant of which the second allocation has the least can do with a smaller core: some of its
    buckets are then not those that come back to it.
    """
    over = excess(first, second, third)
    cores = []
    for variant, middle in enumerate(medians(first, second, third)):
        given_up = min(over, max(middle - second[variant], 0))
        cores.append(middle - given_up)
        over -= given_up
    return cores


def returned(first, second, third, assignment):
    """Return assignments of the second and the third allocation that complete a return of the least cost."""
    cores = returning_cores(first, second, third)
    require(is_assignment_of(assignment, first), "assignment")
    start, middle, end = laid_out(first, cores), laid_out(second, cores), laid_out(third, cores)
    waiting = [buckets_of(start, variant) for variant in range(len(first))]
    places = [waiting[variant].pop(0) for variant in assignment]
    return (tuple([middle[place] for place in places]), tuple([end[place] for place in places]))


def accepts_return(first, second, third, chain):
    """Return True if the chain is a return whose first and third assignment have the return cost as their churn."""
    cost = return_cost(first, second, third)
    if not are_assignments_of(chain, (first, second, third)):
        return False
    start, middle, end = chain
    if not is_least(first, second, start, middle) or not is_least(second, third, middle, end):
        return False
    return churn(start, end) == cost


def lies_between(middle, first, second):
    """Return True if going over the middle allocation moves no more than the direct change."""
    check_allocation(middle, "middle")
    check_alike(first, middle, "first")
    check_alike(second, middle, "second")
    return transfer(first, middle) + transfer(middle, second) == transfer(first, second)


def bridge(first, second, third):
    """Return the allocation that lies between each two of the three, or None."""
    if surplus(first, second, third) != 0:
        return None
    return medians(first, second, third)
