"""Machines that are built for a mark, against a count, for a set."""

from bodyforbody.basics import checked_counts
from bodyforbody.beginnings import beginning
from bodyforbody.changes import same_loops
from bodyforbody.closing import closing
from bodyforbody.errors import Refused
from bodyforbody.falling import checked_falling, has, runs_sum
from bodyforbody.machines import Machine
from bodyforbody.marks import checked_mark, fits, mark_for


def twin_of(mark, state):
    """The twin of a state from the least number of the mark to its top."""
    top = mark[-1]
    if state == top:
        return top + 1
    return top + 2 + state - mark[0]


def marked_entry(mark, state):
    """Where both commands lead a state less than the top."""
    if (state in mark) != (state + 1 in mark):
        return state + 1, twin_of(mark, state + 1)
    return state + 1, state + 1


def twin_entry(mark, state):
    """Where both commands lead the twin of a state less than the top."""
    ahead = twin_of(mark, state + 1)
    if (state in mark) != (state + 1 in mark):
        return ahead, state + 1
    return ahead, ahead


def marked_machine(mark):
    """The machine on which (0,) and (1,) agree at just what the mark fits."""
    told = checked_mark(mark)
    top = told[-1]
    entries = [marked_entry(told, state) for state in range(top)]
    entries.extend([(top + 1, top + 1), (top + 1, top + 1)])
    entries.extend([twin_entry(told, state) for state in range(told[0], top)])
    return Machine(2, entries)


def ring_machine(states):
    """Command 0 leaves the states, command 1 leads each to the next one, the last to 0."""
    return Machine(2, [(state, (state + 1) % states) for state in range(states)])


def parted_machine():
    """Two states on which (0,) and (1,) agree at 0 alone."""
    return Machine(2, [(0, 1), (0, 1)])


def parting_power(counts, count):
    """The least power of a prime that divides all counts, not the count, `None` if there is none so small."""
    # The least divisor of this kind is such a power: of two factors without a common one, one would do as well.
    for divisor in range(2, count + 3):
        if count % divisor != 0 and all([told % divisor == 0 for told in counts]):
            return divisor
    return None


def machine_against(counts, count):
    """A machine on which (0,) and (1,) agree at all of the counts, not at this count."""
    told = checked_counts(counts)
    if has(closing(told), count):
        raise Refused(0)
    if all([other == 0 for other in told]):
        return parted_machine()
    divisor = parting_power(told, count)
    if divisor is not None:
        return ring_machine(divisor)
    return marked_machine(mark_for(told, count))


def is_against(counts, count, value):
    """Whether any value is a machine on which (0,) and (1,) agree at all of the counts, not at this count."""
    told = checked_counts(counts)
    if not isinstance(value, Machine) or value.commands < 2:
        return False
    if same_loops(value, (0,), (1,), count):
        return False
    return all([same_loops(value, (0,), (1,), other) for other in told])


def side_by_side(machines):
    """The machine with the states of all, those of each counted on behind those before."""
    entries = []
    for index, machine in enumerate(machines):
        if machine.commands != machines[0].commands:
            raise Refused(index)
        base = len(entries)
        entries.extend([tuple([base + state for state in entry]) for entry in machine.steps])
    return Machine(machines[0].commands, entries)


def gaps_downward(falling):
    """The multiples of the end that are not in the set, the greatest first."""
    if falling[1] == 0:
        return []
    gaps = [count for count in range(0, runs_sum(falling), falling[1]) if not has(falling, count)]
    return sorted(gaps, reverse=True)


def set_marks(falling):
    """Marks that fit all of the set; each multiple of the end that is not in it is fitted by not all of them."""
    marks = []
    for gap in gaps_downward(checked_falling(falling)):
        if all([fits(mark, gap) for mark in marks]):
            marks.append(mark_for(beginning(falling, gap), gap))
    return tuple(marks)


def set_machine(falling):
    """A machine on which (0,) and (1,) agree at just the numbers of the set."""
    end = checked_falling(falling)[1]
    if end == 0:
        return parted_machine()
    machines = [marked_machine(mark) for mark in set_marks(falling)]
    if end > 1:
        machines = [ring_machine(end)] + machines
    if not machines:
        return Machine(2, [(0, 0)])
    return side_by_side(machines)
