"""Machines, and the rows of their commands."""

from bodyforbody.basics import is_number, is_number_below, is_sequence
from bodyforbody.errors import InvalidMachine, InvalidRow


def is_entry(value, commands, states):
    """Whether any value tells a next state for each command."""
    if not is_sequence(value) or len(value) != commands:
        return False
    return all([is_number_below(state, states) for state in value])


class Machine:
    """States that each command leads to states: `steps[state][command]`."""

    def __init__(self, commands, steps):
        if not is_number(commands) or commands < 1:
            raise InvalidMachine(0)
        if not is_sequence(steps) or len(steps) == 0:
            raise InvalidMachine(1)
        for state, entry in enumerate(steps):
            if not is_entry(entry, commands, len(steps)):
                raise InvalidMachine(2 + state)
        self.commands = commands
        self.states = len(steps)
        self.steps = tuple([tuple(entry) for entry in steps])

    def __eq__(self, other):
        return (isinstance(other, Machine) and self.commands == other.commands
                and self.states == other.states and self.steps == other.steps)


def checked_row(machine, value):
    """Any value, a sequence of commands of the machine, as a row."""
    if not is_sequence(value):
        raise InvalidRow(0)
    for index, command in enumerate(value):
        if not is_number_below(command, machine.commands):
            raise InvalidRow(index)
    return tuple(value)


def is_row(machine, value):
    """Whether any value is a tuple of commands of the machine."""
    return isinstance(value, tuple) and all([is_number_below(command, machine.commands) for command in value])
