"""At which counts two bodies agree, on one machine."""

from math import lcm

from bodyforbody.basics import are_numbers, is_tuple_of, rounded_up
from bodyforbody.changes import change_of, done_after, power, ring, tail
from bodyforbody.falling import falling_from, runs_sum
from bodyforbody.primes import prime_factors


def alike_at(first, second, count):
    """Whether two changes, done so many times, are the same."""
    return power(first, count) == power(second, count)


def common_ring(first, second):
    """The least number from 1 on that both rings divide."""
    return lcm(ring(first), ring(second))


def later_tail(first, second):
    """The count from on which the powers of both changes come again."""
    return max(tail(first), tail(second))


def common_end(first, second):
    """The least number at whose multiples, from the reach on, both changes agree; 0 if they do at none."""
    start = later_tail(first, second)
    rings = common_ring(first, second)
    far = rounded_up(start, rings)
    if not alike_at(first, second, far):
        return 0
    end = rings
    for prime in prime_factors(rings):
        # From the reach on only what both rings leave of a count matters.
        while end % prime == 0 and alike_at(first, second, far + end // prime):
            end = end // prime
    return end


def agreeing_changes(first, second):
    """The falling row of the set of all counts at which two changes agree."""
    start = later_tail(first, second)
    end = common_end(first, second)
    if end == 0:
        return (), 0
    members = [0]
    one, other = first, second
    for count in range(1, start):
        if one == other:
            members.append(count)
        one = done_after(one, first)
        other = done_after(other, second)
    members.append(rounded_up(max(start, 1), end))
    return falling_from(members, end)


def agreeing(machine, one, other):
    """The falling row of the set of all counts at which the two rows agree."""
    first = change_of(machine, one)
    return agreeing_changes(first, change_of(machine, other))


def first_fault(first, second, count):
    """The first state that two changes, done so many times, lead to unlike ends, and these; `None` without any."""
    for state, (end, other_end) in enumerate(zip(power(first, count), power(second, count))):
        if end != other_end:
            return state, end, other_end
    return None


def loop_fault(machine, one, other, count):
    """`None`, or some state and the unlike ends to which the rows, done so many times, lead it."""
    first = change_of(machine, one)
    return first_fault(first, change_of(machine, other), count)


def is_loop_fault(machine, one, other, count, value):
    """Whether any value is a loop fault of the count."""
    first = change_of(machine, one)
    second = change_of(machine, other)
    if not is_tuple_of(value, 3) or not are_numbers(value):
        return False
    state, end, other_end = value
    if state >= machine.states or end == other_end:
        return False
    return power(first, count)[state] == end and power(second, count)[state] == other_end


def reach(machine, one, other):
    """The greater one of the tails of both rows' changes."""
    first = change_of(machine, one)
    return later_tail(first, change_of(machine, other))


def settles(machine, one, other):
    """The least count from which on the rows agree at all multiples of the end only, `None` without any but 0."""
    falling = agreeing(machine, one, other)
    if falling[1] == 0:
        return None
    # Before the last run is done, a step is greater than the end.
    return runs_sum(falling)
