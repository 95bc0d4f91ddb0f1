"""Rows that are carried over a loop."""

from bodyforbody.changes import change_of, done_after, done_times, first_unlike, latest_tail, shared_ring
from bodyforbody.settled import settled_row


def both_ways(first, middle, second, count):
    """What a loop and then a change does, and what the change and then another loop does."""
    return done_after(done_times(first, count), middle), done_after(middle, done_times(second, count))


def is_carried(first, middle, second, count):
    """Whether a change behind a loop does what it does ahead of another loop."""
    ahead, behind = both_ways(first, middle, second, count)
    return ahead == behind


def carried(machine, one, row, other):
    """The falling row of the set of all counts at which the row is carried from the first body to the second one."""
    first = change_of(machine, one)
    middle = change_of(machine, row)
    second = change_of(machine, other)
    start = latest_tail((first, second))
    return settled_row(start, shared_ring((first, second)), lambda count: is_carried(first, middle, second, count))


def carry_fault(machine, one, row, other, count):
    """`None`, or some state that both ways lead to unlike ones."""
    first = change_of(machine, one)
    middle = change_of(machine, row)
    ahead, behind = both_ways(first, middle, change_of(machine, other), count)
    return first_unlike(ahead, behind)
