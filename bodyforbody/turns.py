"""At which counts it never matters which of two tasks begins."""

from bodyforbody.basics import is_number_below, is_tuple_of
from bodyforbody.changes import change_of, done_after, done_times, first_unlike, idle_change, latest_tail, shared_ring
from bodyforbody.machines import is_row
from bodyforbody.settled import settled_row


def command_changes(machine):
    """For each command where it leads each state."""
    return [change_of(machine, (command,)) for command in range(machine.commands)]


def shown_rows(machine):
    """For each change that the machine shows a row with the fewest commands that has it."""
    steps = command_changes(machine)
    idle = idle_change(machine.states)
    rows = {idle: ()}
    layer = [idle]
    while layer:
        found = []
        for change in layer:
            for command, step in enumerate(steps):
                led = done_after(change, step)
                if led not in rows:
                    rows[led] = rows[change] + (command,)
                    found.append(led)
        layer = found
    return rows


def shown(machine):
    """The changes of all rows of the machine."""
    return tuple(sorted(shown_rows(machine)))


def powers_of(changes, count):
    """For each of the changes what it does, done so many times."""
    return {change: done_times(change, count) for change in changes}


def are_pairs_alike(changes, pairs, count):
    """Whether both changes of each pair, done so many times, are the same."""
    powers = powers_of(changes, count)
    return all([powers[one] == powers[other] for one, other in pairs])


def agreeing_pairs(changes, pairs):
    """The falling row of the set of all counts at which both of each pair of these changes agree."""
    start = latest_tail(changes)
    return settled_row(start, shared_ring(changes), lambda count: are_pairs_alike(changes, pairs, count))


def turn_pairs(machine, changes):
    """The changes of a command and a row, in both orders: no two rows have other faults than these."""
    pairs = {}
    for step in command_changes(machine):
        for change in changes:
            pairs[(done_after(step, change), done_after(change, step))] = True
    return list(pairs)


def turns(machine):
    """The falling row of the set of all counts at which it never matters who begins."""
    changes = shown(machine)
    return agreeing_pairs(changes, turn_pairs(machine, changes))


def turn_fault(machine, count):
    """`None`, or some command, as a row, some other row, and a state that both orders lead to unlike ones."""
    rows = shown_rows(machine)
    powers = powers_of(rows, count)
    for command, step in enumerate(command_changes(machine)):
        for change in rows:
            state = first_unlike(powers[done_after(step, change)], powers[done_after(change, step)])
            if state is not None:
                return (command,), rows[change], state
    return None


def is_rows_and_state(machine, value):
    """Whether any value is a triple of two rows and a state."""
    if not is_tuple_of(value, 3) or not is_number_below(value[2], machine.states):
        return False
    return is_row(machine, value[0]) and is_row(machine, value[1])


def are_parted(machine, one, other, state, count):
    """Whether two rows, done so many times, lead the state to unlike ones."""
    ends = done_times(change_of(machine, one), count)
    return ends[state] != done_times(change_of(machine, other), count)[state]


def is_turn_fault(machine, count, value):
    """Whether any value is a turn fault of the count."""
    if not is_rows_and_state(machine, value):
        return False
    one, other, state = value
    return are_parted(machine, one + other, other + one, state, count)
