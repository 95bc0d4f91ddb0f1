"""Changes that may be done ahead of all others or behind them."""

from bodyforbody.changes import done_after, done_times, latest_tail, shared_ring
from bodyforbody.settled import settled_row
from bodyforbody.turns import command_changes, shown


def is_in_middle(change, steps):
    """Whether the change, done ahead of any of the steps, does what it does behind it."""
    return all([done_after(change, step) == done_after(step, change) for step in steps])


def middle(machine):
    """The changes that the machine shows and that may be done ahead of any command or behind it."""
    steps = command_changes(machine)
    return tuple([change for change in shown(machine) if is_in_middle(change, steps)])


def are_led_into(changes, kept, count):
    """Whether all of the changes, done so many times, are among those that are kept."""
    return all([done_times(change, count) in kept for change in changes])


def middle_counts(machine):
    """The falling row of the set of all counts so many times of which each change is in the middle."""
    changes = shown(machine)
    kept = {change: True for change in middle(machine)}
    return settled_row(latest_tail(changes), shared_ring(changes), lambda count: are_led_into(changes, kept, count))
