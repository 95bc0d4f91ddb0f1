"""Changes of all states at once, their powers, and loops."""

from math import lcm

from bodyforbody.basics import is_number_below, is_tuple_of
from bodyforbody.errors import InvalidChange, Refused
from bodyforbody.machines import checked_row


def checked_change(states, value):
    """Any value, a change of so many states, as it is."""
    if not is_tuple_of(value, states) or not all([is_number_below(state, states) for state in value]):
        raise InvalidChange(0)
    return value


def checked_alone(value):
    """Any value, a change of however many states, as it is."""
    if not isinstance(value, tuple) or len(value) == 0:
        raise InvalidChange(0)
    return checked_change(len(value), value)


def idle_change(states):
    """The change that leaves all of so many states as they are."""
    return tuple(range(states))


def done_after(first, second):
    """What the first change and then the second one do; both are changes."""
    return tuple([second[state] for state in first])


def followed(one, other):
    """The change that does what the first does, then the second."""
    first = checked_alone(one)
    return done_after(first, checked_change(len(first), other))


def loses(change):
    """Whether the change leads two states to one."""
    told = checked_alone(change)
    return len(set(told)) < len(told)


def done_times(change, count):
    """What a change does, done so many times."""
    doubled = change
    done = idle_change(len(change))
    left = count
    while left > 0:
        if left & 1:
            done = done_after(done, doubled)
        doubled = done_after(doubled, doubled)
        left = left >> 1
    return done


def power(change, count):
    """The change done so many times."""
    return done_times(checked_alone(change), count)


def lasting_states(change):
    """The states that come again for ever, and how many times the change is done until only these are left."""
    kept = list(range(len(change)))
    led = sorted(set(change))
    times = 0
    while len(led) < len(kept):
        kept = led
        led = sorted(set([change[state] for state in kept]))
        times += 1
    return kept, times


def ring_length(change, state):
    """How many times the change is done until a lasting state comes again."""
    length = 1
    place = change[state]
    while place != state:
        place = change[place]
        length += 1
    return length


def tail_and_ring(change):
    """The tail and the ring of a change."""
    told = checked_alone(change)
    kept, times = lasting_states(told)
    common = 1
    for state in kept:
        common = lcm(common, ring_length(told, state))
    return times, common


def tail(change):
    """The least count whose power comes again."""
    return tail_and_ring(change)[0]


def ring(change):
    """After how many more times the powers from the tail on come again."""
    return tail_and_ring(change)[1]


def latest_tail(changes):
    """The count from on which the powers of all these changes come again."""
    return max([tail(change) for change in changes])


def shared_ring(changes):
    """The least number from 1 on that the rings of all these changes divide."""
    common = 1
    for change in changes:
        common = lcm(common, ring(change))
    return common


def least_count(change, count):
    """The least count with the same power as this one."""
    before, common = tail_and_ring(change)
    if count < before:
        return count
    return before + (count - before) % common


def first_unlike(change, other):
    """The first state that two changes lead to unlike ones, `None` without any."""
    for state, (end, other_end) in enumerate(zip(change, other)):
        if end != other_end:
            return state
    return None


def change_of(machine, row):
    """The states to which the row leads each state."""
    places = idle_change(machine.states)
    for command in checked_row(machine, row):
        places = tuple([machine.steps[place][command] for place in places])
    return places


def loop_end(machine, state, row, count):
    """Where the row, done so many times, leads the state."""
    if not is_number_below(state, machine.states):
        raise Refused(0)
    return power(change_of(machine, row), count)[state]


def same_loops(machine, one, other, count):
    """Whether both rows, done so many times, lead each state to the same one."""
    first = change_of(machine, one)
    second = change_of(machine, other)
    return power(first, count) == power(second, count)
