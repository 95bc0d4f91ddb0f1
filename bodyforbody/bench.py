"""Benches: programs of loops whose bodies may be exchanged."""

from bodyforbody.basics import is_number, is_number_below
from bodyforbody.changes import change_of, done_after, done_times, idle_change, same_loops
from bodyforbody.errors import InvalidQuestion, Refused
from bodyforbody.machines import Machine, checked_row


def check_index(at, many):
    """Refuses any value that is no index of so many things."""
    if not is_number_below(at, many):
        raise InvalidQuestion(0)


class Bench:
    """A machine and a program: loops (count, row) that are done one after another."""

    def __init__(self, machine):
        if not isinstance(machine, Machine):
            raise Refused(0)
        self.machine = machine
        self._loops = ()
        # The programs before each deed that can be undone.
        self._elder = []

    def __len__(self):
        return len(self._elder)

    def _change(self, loops):
        """Makes these loops the program, as a deed that can be undone."""
        self._elder.append(self._loops)
        self._loops = loops

    def program(self):
        """The loops (count, row)."""
        return self._loops

    def effect(self):
        """The change of all loops, one after another."""
        change = idle_change(self.machine.states)
        for count, row in self._loops:
            change = done_after(change, done_times(change_of(self.machine, row), count))
        return change

    def steps(self):
        """How many commands are done in all."""
        return sum([count * len(row) for count, row in self._loops])

    def put(self, at, count, row):
        """Puts a loop in ahead of the one with this index, or behind the last one."""
        check_index(at, len(self._loops) + 1)
        if not is_number(count):
            raise InvalidQuestion(1)
        body = checked_row(self.machine, row)
        self._change(self._loops[:at] + ((count, body),) + self._loops[at:])

    def take(self, at):
        """Takes the loop with this index out."""
        check_index(at, len(self._loops))
        self._change(self._loops[:at] + self._loops[at + 1:])

    def could(self, at, row):
        """Whether the loop with this index may have the row as its body."""
        check_index(at, len(self._loops))
        count, body = self._loops[at]
        return same_loops(self.machine, row, body, count)

    def exchange(self, at, row):
        """Gives the loop with this index another body that agrees with its own at its count."""
        if not self.could(at, row):
            raise Refused(1)
        loop = (self._loops[at][0], checked_row(self.machine, row))
        self._change(self._loops[:at] + (loop,) + self._loops[at + 1:])

    def undo(self):
        """Undoes the last deed; returns `False` if there is none."""
        if len(self._elder) == 0:
            return False
        self._loops = self._elder.pop()
        return True

    def within(self, work):
        """Returns what the work, done with this bench, returns; all deeds done in it are undone."""
        loops = self._loops
        elder = list(self._elder)
        try:
            return work(self)
        finally:
            self._loops = loops
            self._elder = elder
