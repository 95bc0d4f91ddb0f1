"""A body that is done several times in each round."""

from math import gcd

from bodyforbody.basics import is_number, rounded_up
from bodyforbody.changes import change_of, tail_and_ring
from bodyforbody.errors import InvalidQuestion
from bodyforbody.falling import falling_from


def repeated_by(tail, ring, times, others):
    """The counts n at which a change with this tail and ring does the same `times * n` and `others * n` times."""
    low = min(times, others)
    high = max(times, others)
    if low == high:
        return (), 1
    if low == 0 and tail > 0:
        return (), 0
    end = ring // gcd(ring, high - low)
    # Done `low` times, the first count from 1 on must come to the tail.
    least = 1 if tail == 0 else (tail + low - 1) // low
    return falling_from([0, rounded_up(least, end)], end)


def repeated(machine, row, times, others):
    """The counts n at which the row does the same `times * n` and `others * n` times."""
    change = change_of(machine, row)
    if not is_number(times):
        raise InvalidQuestion(2)
    if not is_number(others):
        raise InvalidQuestion(3)
    before, common = tail_and_ring(change)
    return repeated_by(before, common, times, others)
