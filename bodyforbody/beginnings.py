"""Beginnings: all numbers of a closed set up to a bound."""

from bodyforbody.basics import are_numbers, is_ascending
from bodyforbody.falling import checked_falling


def beginning(falling, bound):
    """All numbers of the set that are not greater than the bound."""
    runs, end = checked_falling(falling)
    members = [0]
    base = 0
    for step, times in runs:
        last = min(base + step * times, bound)
        members.extend(list(range(base + step, last + 1, step)))
        base += step * times
    if end > 0:
        members.extend(list(range(base + end, bound + 1, end)))
    return tuple(members)


def is_beginning(value, bound):
    """Whether any value is some beginning up to the bound."""
    if not isinstance(value, tuple) or not are_numbers(value) or value[:1] != (0,):
        return False
    if not is_ascending(value) or value[-1] > bound:
        return False
    members = {number: True for number in value}
    # A set that is not closed already lacks 2 x - z for some neighbours z and x.
    beyond = [2 * high - low for low, high in zip(value, value[1:])]
    return all([number > bound or number in members for number in beyond])
