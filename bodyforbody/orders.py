"""At which counts the order of the tasks of a round never matters."""

from itertools import combinations

from bodyforbody.basics import is_ascending
from bodyforbody.changes import done_after, first_unlike
from bodyforbody.turns import agreeing_pairs, are_parted, command_changes, is_rows_and_state, powers_of, shown
from bodyforbody.turns import shown_rows, turn_fault, turn_pairs


def swap_pairs(machine, changes):
    """The changes of two commands and a row, and of the same with these two exchanged."""
    pairs = {}
    steps = command_changes(machine)
    for one, other in combinations(steps, 2):
        ahead = done_after(one, other)
        behind = done_after(other, one)
        for change in changes:
            pairs[(done_after(ahead, change), done_after(behind, change))] = True
    return list(pairs)


def orders(machine):
    """The falling row of the set of all counts at which every two alike rows agree."""
    changes = shown(machine)
    # Alike rows come from each other by two moves: the first command goes to the end, the first two are exchanged.
    return agreeing_pairs(changes, turn_pairs(machine, changes) + swap_pairs(machine, changes))


def swap_fault(machine, count):
    """`None`, or some order fault of two rows of which just the first two commands are exchanged."""
    rows = shown_rows(machine)
    powers = powers_of(rows, count)
    steps = command_changes(machine)
    commands = list(range(machine.commands))
    for one, other in combinations(commands, 2):
        ahead = done_after(steps[one], steps[other])
        behind = done_after(steps[other], steps[one])
        for change in rows:
            state = first_unlike(powers[done_after(ahead, change)], powers[done_after(behind, change)])
            if state is not None:
                return (one, other) + rows[change], (other, one) + rows[change], state
    return None


def order_fault(machine, count):
    """`None`, or two alike rows and a state that they, done so many times, lead to unlike ones."""
    fault = turn_fault(machine, count)
    if fault is None:
        return swap_fault(machine, count)
    one, other, state = fault
    return one + other, other + one, state


def are_alike(one, other):
    """Whether two tuples have the same numbers, each as often."""
    return sorted(one) == sorted(other)


def is_order_fault(machine, count, value):
    """Whether any value is an order fault of the count."""
    if not is_rows_and_state(machine, value):
        return False
    one, other, state = value
    return are_alike(one, other) and are_parted(machine, one, other, state, count)


def places_in(one, other):
    """For each entry of a tuple another place in an alike one where the same number stands."""
    free = {}
    for place, number in enumerate(other):
        free.setdefault(number, []).append(place)
    return [free[number].pop(0) for number in one]


def sift(places, done):
    """Moves the greatest place to the end, by as many moves 0 as there are places; puts the moves behind `done`."""
    held = places[0]
    sifted = []
    for place in places[1:]:
        if place < held:
            done.append(1)
        sifted.append(min(place, held))
        held = max(place, held)
        done.append(0)
    done.append(0)
    return sifted + [held]


def moves(one, other):
    """`None`, or some moves that lead from the first tuple to the second."""
    if not are_alike(one, other):
        return None
    places = places_in(one, other)
    done = []
    while not is_ascending(places):
        places = sift(places, done)
    return tuple(done)
