"""Rooms, the states in which a loop may start, and views, what is read of a state behind it."""

from bodyforbody.basics import is_ascending, is_number_below
from bodyforbody.changes import change_of, checked_change
from bodyforbody.errors import InvalidQuestion


def checked_room(machine, value):
    """Any value, an ascending tuple of states, not empty, as it is."""
    if not isinstance(value, tuple) or len(value) == 0:
        raise InvalidQuestion(1)
    if not all([is_number_below(state, machine.states) for state in value]) or not is_ascending(value):
        raise InvalidQuestion(1)
    return value


def checked_view(machine, value):
    """Any value, a tuple with a colour for each state, as it is."""
    return checked_change(machine.states, value)


def room_is_held(room, change):
    """Whether the change leads each state of the room to one of them."""
    return all([change[state] in room for state in room])


def view_is_held(view, change):
    """Whether the change leads states of equal colours to states of equal colours."""
    led = {}
    for colour, state in zip(view, change):
        if led.setdefault(colour, view[state]) != view[state]:
            return False
    return True


def holds_room(machine, room, row):
    """Whether the row leads each state of the room to one of them."""
    told = checked_room(machine, room)
    return room_is_held(told, change_of(machine, row))


def least_room(machine, room, row):
    """The room with the fewest states that has all of these and is held."""
    found = {state: True for state in checked_room(machine, room)}
    change = change_of(machine, row)
    for state in list(found):
        place = change[state]
        while place not in found:
            found[place] = True
            place = change[place]
    return tuple(sorted(found))


def holds_view(machine, view, row):
    """Whether the row leads states of equal colours to states of equal colours."""
    told = checked_view(machine, view)
    return view_is_held(told, change_of(machine, row))


def coloured(keys):
    """For each state the least state with an equal key."""
    firsts = {}
    return tuple([firsts.setdefault(key, state) for state, key in enumerate(keys)])


def least_view(machine, view, row):
    """The held view with the fewest colours in which unlike colours stay unlike."""
    found = coloured(checked_view(machine, view))
    change = change_of(machine, row)
    while not view_is_held(found, change):
        found = coloured([(colour, found[state]) for colour, state in zip(found, change)])
    return found


def crossed(machine, room, view, one, other):
    """Whether one of the two rows holds the room and the other one of the two holds the view."""
    states = checked_room(machine, room)
    colours = checked_view(machine, view)
    first = change_of(machine, one)
    second = change_of(machine, other)
    if room_is_held(states, first) and view_is_held(colours, second):
        return True
    return room_is_held(states, second) and view_is_held(colours, first)
