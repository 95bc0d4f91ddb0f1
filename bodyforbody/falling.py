"""Falling rows, and the closed sets of numbers that they tell."""

from bodyforbody.basics import is_ascending, is_number, is_tuple_of, rounded_up
from bodyforbody.errors import InvalidQuestion, Refused


def is_run(value):
    """Whether any value is a pair of numbers from 1 on."""
    return is_tuple_of(value, 2) and all([is_number(number) and number > 0 for number in value])


def has_form(value):
    """Whether any value is a pair of runs and an end that is 0 only without runs."""
    if not is_tuple_of(value, 2) or not isinstance(value[0], tuple) or not is_number(value[1]):
        return False
    return all([is_run(run) for run in value[0]]) and (value[1] > 0 or len(value[0]) == 0)


def tells(runs, end, count):
    """Whether the runs and the end, done from 0 on, reach the count."""
    base = 0
    for step, times in runs:
        if count <= base + step * times:
            return (count - base) % step == 0
        base += step * times
    if end == 0:
        return count == base
    return (count - base) % end == 0


def is_falling(value):
    """Whether any value is a falling row."""
    if not has_form(value):
        return False
    runs, end = value
    rising = [end] + [run[0] for run in reversed(runs)]
    if not is_ascending(rising):
        return False
    return all([tells(runs[at + 1:], end, run[0]) for at, run in enumerate(runs)])


def checked_falling(value, at=0):
    """Any value, a falling row, as it is; `at` is the number of the argument."""
    if not is_falling(value):
        raise InvalidQuestion(at)
    return value


def add_run(runs, step, times):
    """Puts so many steps behind a list of runs; equal steps are one run."""
    if runs and runs[-1][0] == step:
        runs[-1] = (step, runs[-1][1] + times)
    else:
        runs.append((step, times))


def falling_from(members, end):
    """The falling row of a closed set: its ascending members up to one from which on the end is always added."""
    runs = []
    for low, high in zip(members, members[1:]):
        add_run(runs, high - low, 1)
    if runs and runs[-1][0] == end:
        runs.pop()
    return tuple(runs), end


def runs_sum(falling):
    """What the runs of a falling row add, all together."""
    return sum([step * times for step, times in falling[0]])


def has(falling, count):
    """Whether the number is in the set."""
    runs, end = checked_falling(falling)
    return tells(runs, end, count)


def member_at(falling, index):
    """The number of the set that so many of the set are less than."""
    runs, end = checked_falling(falling)
    base = 0
    left = index
    for step, times in runs:
        if left <= times:
            return base + step * left
        base += step * times
        left -= times
    if end == 0 and left > 0:
        raise Refused(0)
    return base + end * left


def next_member(falling, count):
    """The least number of the set that is not less than this one."""
    runs, end = checked_falling(falling)
    base = 0
    for step, times in runs:
        if count <= base + step * times:
            return base + rounded_up(count - base, step)
        base += step * times
    if end == 0:
        return 0 if count == 0 else None
    return base + rounded_up(count - base, end)


def members_below(falling, bound):
    """How many numbers of the set are less than the bound."""
    runs, end = falling
    base = 0
    many = 0
    for step, times in runs:
        if bound <= base + step * times:
            return many + (bound - base + step - 1) // step
        base += step * times
        many += times
    if end == 0:
        return min(bound, 1)
    return many + (bound - base + end - 1) // end


def members_between(falling, low, high):
    """How many numbers of the set are at least `low` and less than `high`."""
    told = checked_falling(falling)
    if high <= low:
        return 0
    return members_below(told, high) - members_below(told, low)
