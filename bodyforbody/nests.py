"""Loops in loops: how often they do their body, and for which counts it may be another one."""

from math import comb

from bodyforbody.basics import is_number, is_tuple_of
from bodyforbody.changes import change_of
from bodyforbody.closing import closing, tellers
from bodyforbody.court import agreeing, alike_at
from bodyforbody.errors import InvalidQuestion
from bodyforbody.falling import runs_sum, tells
from bodyforbody.knowns import checked_known, first_counts


def is_times(value, inside):
    """Whether any value tells how often a loop is done; `inside` tells whether another loop is around it."""
    if isinstance(value, str):
        return value in ("n", "m") or (value == "i" and inside)
    return is_number(value)


def is_nest(value):
    """Whether any value is a nest."""
    left = [(value, False)]
    while left:
        nest, inside = left.pop()
        if not isinstance(nest, tuple):
            return False
        for part in nest:
            if is_tuple_of(part, 2) and is_times(part[0], inside):
                left.append((part[1], True))
            elif not is_number(part) or part > 0:
                return False
    return True


def checked_nest(value, at):
    """Any value, a nest, as it is; `at` is the number of the argument."""
    if not is_nest(value):
        raise InvalidQuestion(at)
    return value


def rounds_of(times, n, m):
    """How many rounds a loop has that is not told by those around it."""
    if times == "n":
        return n
    return m if times == "m" else times


def put_weight(weights, at, weight):
    """Adds to the weight with this index of a list, which grows where it is too short."""
    while len(weights) <= at:
        weights.append(0)
    weights[at] += weight


def weights_of(nest, n, m):
    """How often the body is done: the sum of `weights[k] * comb(i, k)`, i being the rounds ended around the nest.

    All rounds below a number t together do it the sum of `weights[k] * comb(t, k + 1)` times.
    """
    weights = [0]
    for part in nest:
        if part == 0:
            put_weight(weights, 0, 1)
            continue
        times, inner = part
        for at, weight in enumerate(weights_of(inner, n, m)):
            if times == "i":
                put_weight(weights, at + 1, weight)
            else:
                put_weight(weights, 0, weight * comb(rounds_of(times, n, m), at + 1))
    return weights


def times_of(nest, n, m):
    """How often a nest does its body."""
    return weights_of(nest, n, m)[0]


def body_times(nest, n, m):
    """How often the nest does its body."""
    return times_of(checked_nest(nest, 0), n, m)


def put_exponents(exponents, at, n_exponent, m_exponent):
    """Raises the exponents that are told for an index to these, if they are less."""
    before = exponents.get(at, (0, 0))
    exponents[at] = (max(before[0], n_exponent), max(before[1], m_exponent))


def exponents_of(nest):
    """For the index of each weight that is not 0 for all n and m, its greatest exponents of n and of m.

    The weights are sums of products of numbers `comb(n, j)` and `comb(m, k)`, so nothing is ever taken off.
    """
    exponents = {}
    for part in nest:
        if part == 0:
            put_exponents(exponents, 0, 0, 0)
            continue
        times, inner = part
        for at, (n_exponent, m_exponent) in exponents_of(inner).items():
            if times == "i":
                put_exponents(exponents, at + 1, n_exponent, m_exponent)
            elif times == "n":
                put_exponents(exponents, 0, n_exponent + at + 1, m_exponent)
            elif times == "m":
                put_exponents(exponents, 0, n_exponent, m_exponent + at + 1)
            elif times > at:
                put_exponents(exponents, 0, n_exponent, m_exponent)
    return exponents


def degrees_of(nest):
    """The greatest exponents of n and of m in what a nest's `body_times` is."""
    return exponents_of(nest).get(0, (0, 0))


def degrees(nest):
    """The greatest exponents of n and of m in the polynomial that `body_times` is."""
    return degrees_of(checked_nest(nest, 0))


def nest_agrees(machine, one, other, nest, n, m):
    """Whether the nest leads each state to the same one with either row as its body."""
    first = change_of(machine, one)
    second = change_of(machine, other)
    return alike_at(first, second, times_of(checked_nest(nest, 3), n, m))


def deciding_pairs(nest, known, other_known):
    """Pairs of the first counts of both knowns, ascending, as many as decide on all of their counts."""
    n_degree, m_degree = degrees_of(nest)
    others = first_counts(other_known, m_degree + 1)
    return [(n, m) for n in first_counts(known, n_degree + 1) for m in others]


def nest_fault(machine, one, other, nest, known, other_known):
    """The first counts n and m of the knowns for which the nest does not agree, `None` without any."""
    runs, end = agreeing(machine, one, other)
    told = checked_nest(nest, 3)
    first = checked_known(known, 4)
    for n, m in deciding_pairs(told, first, checked_known(other_known, 5)):
        if not tells(runs, end, times_of(told, n, m)):
            return n, m
    return None


def is_sure_from(falling, nest, least, m):
    """Whether what the nest does for this m, and for the number `least` or any greater n, is in the set."""
    counts = range(least, least + degrees_of(nest)[0] + 1)
    return all([tells(falling[0], falling[1], times_of(nest, n, m)) for n in counts])


def sure_from(machine, one, other, nest, m):
    """The least number from which on the nest agrees for this m and all counts n, `None` without any."""
    falling = agreeing(machine, one, other)
    told = checked_nest(nest, 3)
    # If the body is not always done as often, from the degree on each n more does it at least once more.
    high = runs_sum(falling) + degrees_of(told)[0]
    if not is_sure_from(falling, told, high, m):
        return None
    low = 0
    while low < high:
        middle = (low + high) // 2
        if is_sure_from(falling, told, middle, m):
            high = middle
        else:
            low = middle + 1
    return low


def first_pairs(nest, known, other_known):
    """For each number of times, at those counts that decide, the first pair of counts that it comes from."""
    told = checked_nest(nest, 0)
    first = checked_known(known, 1)
    firsts = {}
    for n, m in deciding_pairs(told, first, checked_known(other_known, 2)):
        firsts.setdefault(times_of(told, n, m), (n, m))
    return firsts


def nest_closing(nest, known, other_known):
    """The falling row of the least closed set that has `body_times` for all counts of the knowns."""
    return closing(list(first_pairs(nest, known, other_known)))


def nest_tests(nest, known, other_known):
    """The fewest pairs of counts of the knowns at which a nest must agree so that it does for all."""
    firsts = first_pairs(nest, known, other_known)
    return tuple(sorted([firsts[count] for count in tellers(closing(list(firsts)))]))
