"""Neighbours of a closed set: those with one number less or more."""

from bodyforbody.closing import tellers
from bodyforbody.errors import Refused
from bodyforbody.falling import add_run, checked_falling, runs_sum


def without_teller(falling, teller):
    """The falling row of the set without a teller: the step to it and the next one are one step."""
    runs, end = falling
    joined = []
    base = 0
    held = 0
    # A teller is the first number of its run, perhaps the first one behind the runs.
    for step, times in runs + ((end, 3),):
        left = times
        if base + step == teller:
            held = step
            left -= 1
        if left > 0:
            add_run(joined, held + step, 1)
            held = 0
        if left > 1:
            add_run(joined, step, left - 1)
        base += step * times
    joined.pop()
    return tuple(joined), end


def without(falling, count):
    """The falling row of the set without this number."""
    row = checked_falling(falling)
    if count not in tellers(row):
        raise Refused(0)
    return without_teller(row, count)


def one_less(falling):
    """The falling rows of all sets that have just one number less."""
    row = checked_falling(falling)
    return tuple(sorted([without_teller(row, teller) for teller in tellers(row)]))


def checked_endless(falling):
    """Any value, a falling row whose set is not 0 alone, as it is."""
    row = checked_falling(falling)
    if row[1] == 0:
        raise Refused(0)
    return row


def last_gap(row):
    """The greatest multiple of the end that is not in the set, `None` without any."""
    if not row[0]:
        return None
    return runs_sum(row) - row[1]


def greatest_gap(falling):
    """The greatest multiple of the end that is not in the set, `None` without any."""
    return last_gap(checked_endless(falling))


def filled_row(row):
    """The falling row of the set with its greatest gap."""
    runs, end = row
    step, times = runs[-1]
    less = list(runs[:-1])
    # The last one of these steps is parted: the gap is the end less than what it leads to.
    if times > 1:
        less.append((step, times - 1))
    if step - end > end:
        less.append((step - end, 1))
    return tuple(less), end


def filled(falling):
    """The falling row of the set with its greatest gap, `None` if there is none."""
    row = checked_endless(falling)
    return filled_row(row) if row[0] else None


def path(falling):
    """The falling rows from this one to that of all multiples of its end, each filled giving the next one."""
    row = checked_endless(falling)
    rows = [row]
    while row[0]:
        row = filled_row(row)
        rows.append(row)
    return tuple(rows)


def next_rows(falling):
    """All falling rows of which this is the filled one."""
    row = checked_endless(falling)
    gap = last_gap(row)
    if gap is None:
        gap = 0
    return tuple(sorted([without_teller(row, teller) for teller in tellers(row) if teller > gap]))
