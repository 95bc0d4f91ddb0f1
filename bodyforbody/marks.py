"""Marks, and the numbers that they fit."""

from bodyforbody.basics import are_numbers, is_ascending
from bodyforbody.errors import InvalidQuestion
from bodyforbody.falling import falling_from
from bodyforbody.walks import hanging


def checked_mark(value):
    """Any value, an ascending tuple of numbers from 1 on, as it is."""
    if not isinstance(value, tuple) or len(value) == 0 or not are_numbers(value):
        raise InvalidQuestion(0)
    if value[0] == 0 or not is_ascending(value):
        raise InvalidQuestion(0)
    return value


def fits(mark, count):
    """Whether of two numbers up to the top that differ by the count both are in the mark, or neither."""
    marked = {number: True for number in checked_mark(mark)}
    return all([(low in marked) == (low + count in marked) for low in range(mark[-1] - count + 1)])


def fitting(mark):
    """The falling row of the set of all numbers that the mark fits."""
    behind = checked_mark(mark)[-1] + 1
    return falling_from([number for number in range(behind + 1) if fits(mark, number)], 1)


def mark_for(counts, count):
    """The positions that hang with the count, if 0 does not."""
    places = hanging(counts, count)
    if places[0] == 0:
        return None
    return places
