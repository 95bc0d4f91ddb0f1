"""Falling rows with the end 1, counted by what their runs add."""

from bodyforbody.errors import Refused
from bodyforbody.falling import checked_falling, runs_sum, tells

GREATEST_SUM = 30


def first_step(runs, end):
    """The step that is done first from 0 on."""
    return runs[0][0] if runs else end


def runs_with_first_run(runs, left):
    """All runs with the end 1 that have these behind the first run, which adds as much as is left."""
    steps = [step for step in range(first_step(runs, 1) + 1, left + 1) if left % step == 0 and tells(runs, 1, step)]
    return [((step, left // step),) + runs for step in steps]


def runs_by_sum(most):
    """For each sum from 0 to `most` all runs of falling rows with the end 1 and this sum, ascending."""
    table = [[()]]
    for total in range(1, most + 1):
        found = []
        for less in range(total):
            for runs in table[less]:
                found.extend(runs_with_first_run(runs, total - less))
        table.append(sorted(found))
    return table


def how_many(total):
    """How many falling rows with the end 1 have this sum."""
    return len(runs_by_sum(total)[total])


def row_at(total, index):
    """The falling row with the end 1 and this sum that so many of this sum are less than."""
    rows = runs_by_sum(total)[total]
    if index >= len(rows):
        raise Refused(1)
    return rows[index], 1


def index_of(falling):
    """How many falling rows with the end 1 and the same sum are less."""
    runs, end = checked_falling(falling)
    total = runs_sum((runs, end))
    if end != 1 or total > GREATEST_SUM:
        raise Refused(0)
    return runs_by_sum(total)[total].index(runs)
