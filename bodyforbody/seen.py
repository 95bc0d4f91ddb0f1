"""At which counts two rows are seen alike from a room and through a view."""

from math import lcm

from bodyforbody.basics import is_number_below
from bodyforbody.changes import change_of, done_times
from bodyforbody.errors import InvalidQuestion
from bodyforbody.machines import Machine
from bodyforbody.rooms import checked_room, checked_view
from bodyforbody.rounds import flags_of, is_round, tidy

MOST_TOLD = 20


def are_seen_alike(places, others, view):
    """Whether states side by side in two lists have equal colours."""
    return all([view[place] == view[other] for place, other in zip(places, others)])


def seen_alike(machine, room, view, one, other, count):
    """Whether both rows, done so many times, lead each state of the room to states of equal colours."""
    states = checked_room(machine, room)
    colours = checked_view(machine, view)
    first = done_times(change_of(machine, one), count)
    second = done_times(change_of(machine, other), count)
    return are_seen_alike([first[state] for state in states], [second[state] for state in states], colours)


def tail_and_ring_from(change, state):
    """How often a change is done on a state until what it leads to comes again, and after how many more times."""
    times = {}
    place = state
    while place not in times:
        times[place] = len(times)
        place = change[place]
    return times[place], len(times) - times[place]


def start_and_ring(changes, states):
    """From which count on, and after how many more, all of the changes lead all of the states to the same again."""
    start = 0
    common = 1
    for change in changes:
        for state in states:
            before, length = tail_and_ring_from(change, state)
            start = max(start, before)
            common = lcm(common, length)
    return start, common


def seen_round(machine, room, view, one, other):
    """The tidy round of all counts at which both rows are seen alike."""
    states = checked_room(machine, room)
    colours = checked_view(machine, view)
    first = change_of(machine, one)
    second = change_of(machine, other)
    start, common = start_and_ring((first, second), states)
    counts = []
    places = states
    others = states
    for count in range(start + common):
        if are_seen_alike(places, others, colours):
            counts.append(count)
        places = [first[place] for place in places]
        others = [second[place] for place in others]
    return tidy((start, common, tuple(counts)))


def next_places(start, size):
    """For each number below a size the next one; the start comes behind the last one."""
    return [count + 1 for count in range(size - 1)] + [start]


def colours_of(flags):
    """The colour 0 for what is in the set, 1 for what is not."""
    return tuple([0 if flag else 1 for flag in flags])


def from_one_state(start, flags):
    """The room has one state, all colours are unlike: at the other counts command 1 is beside the way of command 0."""
    beside = []
    states = len(flags)
    for count, flag in enumerate(flags):
        if flag:
            beside.append(count)
        else:
            beside.append(states)
            states += 1
    # What is on no way is left as it is, so that from the start 0 nothing is lost.
    first = list(range(states))
    second = list(range(states))
    for count, behind in enumerate(next_places(start, len(flags))):
        first[count] = behind
        second[beside[count]] = beside[behind]
    return Machine(2, list(zip(first, second))), (0,), tuple(range(states))


def from_all_states(start, flags):
    """The room has all states: only from 0, to which nothing comes back, the commands lead to unlike ones."""
    # The last state is the one where command 0 stays; it looks like a count of the set.
    still = len(flags)
    entries = [(still, 1)]
    entries.extend([(place, place) for place in next_places(start, still)[1:]])
    entries.append((still, still))
    return Machine(2, entries), tuple(range(still + 1)), colours_of(flags) + (0,)


def from_held_state(start, flags):
    """Command 0 leaves all as it is, so it holds the room and the view; command 1 goes through all counts."""
    entries = list(enumerate(next_places(start, len(flags))))
    return Machine(2, entries), (0,), colours_of(flags)


def shown(value, kind):
    """A machine, a room and a view from and through which (0,) and (1,) are seen alike just at a round's numbers."""
    if not is_round(value) or value[0] + value[1] > MOST_TOLD or value[2][:1] != (0,):
        raise InvalidQuestion(0)
    if not is_number_below(kind, 3):
        raise InvalidQuestion(1)
    start = value[0]
    flags = flags_of(value)
    if kind == 0:
        return from_one_state(start, flags)
    if kind == 2:
        return from_held_state(start, flags)
    if start == 0:
        # No state may come back to the first one, so the round is begun one count later.
        return from_all_states(1, flags + [True])
    return from_all_states(start, flags)
