"""Rounds: sets of numbers that repeat from some number on."""

from bodyforbody.basics import are_numbers, is_ascending, is_number, is_tuple_of
from bodyforbody.errors import InvalidQuestion, Refused
from bodyforbody.falling import falling_from


def is_round(value):
    """Whether any value is a round."""
    if not is_tuple_of(value, 3) or not is_number(value[0]) or not is_number(value[1]) or value[1] == 0:
        return False
    start, ring, counts = value
    if not isinstance(counts, tuple) or not are_numbers(counts) or not is_ascending(counts):
        return False
    return len(counts) == 0 or counts[-1] < start + ring


def checked_round(value):
    """Any value, a round, as it is."""
    if not is_round(value):
        raise InvalidQuestion(0)
    return value


def folded(start, ring, count):
    """The number below start + ring that tells of the count whether it is in the set."""
    if count < start:
        return count
    return start + (count - start) % ring


def round_has(value, count):
    """Whether the number is in the set."""
    start, ring, counts = checked_round(value)
    return folded(start, ring, count) in counts


def flags_of(value):
    """For each number below start + ring whether it is in the set of a round."""
    start, ring, counts = value
    flags = [False] * (start + ring)
    for count in counts:
        flags[count] = True
    return flags


def least_ring(pattern):
    """The least number after which a pattern that is repeated without end comes again."""
    size = len(pattern)
    rings = [ring for ring in range(1, size + 1) if size % ring == 0]
    return [ring for ring in rings if pattern[ring:] + pattern[:ring] == pattern][0]


def tidy(value):
    """The round of the same set with the least ring, and of these with the least start."""
    told = checked_round(value)
    flags = flags_of(told)
    start = told[0]
    ring = least_ring(flags[start:])
    while start > 0 and flags[start - 1] == flags[start - 1 + ring]:
        start -= 1
    return start, ring, tuple([count for count in range(start + ring) if flags[count]])


def breach(value):
    """`None`, or two neighbours z and x of the set such that 2 x - z is not in it."""
    told = checked_round(value)
    if told[2][:1] != (0,):
        raise Refused(0)
    start, ring = told[:2]
    flags = flags_of(told)
    # From start + ring on all neighbours come again.
    members = [count for count in range(start + 2 * ring) if flags[folded(start, ring, count)]]
    for low, high in zip(members, members[1:]):
        if not flags[folded(start, ring, 2 * high - low)]:
            return low, high
    return None


def round_falling(value):
    """The falling row of the set, `None` if it is not closed."""
    start, ring, counts = tidy(value)
    if counts[:1] != (0,) or breach((start, ring, counts)) is not None:
        return None
    if counts[-1] < start:
        return (), 0
    # A closed set has, from some number on, just the multiples of its end.
    return falling_from(counts, ring)
