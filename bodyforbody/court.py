"""At which counts two bodies agree, on one machine."""

from bodyforbody.basics import are_numbers, is_tuple_of
from bodyforbody.changes import change_of, done_times, first_unlike, latest_tail, shared_ring
from bodyforbody.falling import runs_sum
from bodyforbody.settled import settled_row


def alike_at(first, second, count):
    """Whether two changes, done so many times, are the same."""
    return done_times(first, count) == done_times(second, count)


def agreeing_changes(first, second):
    """The falling row of the set of all counts at which two changes agree."""
    pair = (first, second)
    return settled_row(latest_tail(pair), shared_ring(pair), lambda count: alike_at(first, second, count))


def agreeing(machine, one, other):
    """The falling row of the set of all counts at which the two rows agree."""
    first = change_of(machine, one)
    return agreeing_changes(first, change_of(machine, other))


def first_fault(first, second, count):
    """The first state that two changes, done so many times, lead to unlike ends, and these; `None` without any."""
    ends = done_times(first, count)
    other_ends = done_times(second, count)
    state = first_unlike(ends, other_ends)
    if state is None:
        return None
    return state, ends[state], other_ends[state]


def loop_fault(machine, one, other, count):
    """`None`, or some state and the unlike ends to which the rows, done so many times, lead it."""
    first = change_of(machine, one)
    return first_fault(first, change_of(machine, other), count)


def is_loop_fault(machine, one, other, count, value):
    """Whether any value is a loop fault of the count."""
    first = change_of(machine, one)
    second = change_of(machine, other)
    if not is_tuple_of(value, 3) or not are_numbers(value):
        return False
    state, end, other_end = value
    if state >= machine.states or end == other_end:
        return False
    return done_times(first, count)[state] == end and done_times(second, count)[state] == other_end


def reach(machine, one, other):
    """The greater one of the tails of both rows' changes."""
    first = change_of(machine, one)
    return latest_tail((first, change_of(machine, other)))


def settles(machine, one, other):
    """The least count from which on the rows agree at all multiples of the end only, `None` without any but 0."""
    falling = agreeing(machine, one, other)
    if falling[1] == 0:
        return None
    # Before the last run is done, a step is greater than the end.
    return runs_sum(falling)
