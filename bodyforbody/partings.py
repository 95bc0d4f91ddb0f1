"""Machines that part two mixes although their bodies agree as told."""

from bodyforbody.accords import alike_mixes, checked_accords, checked_letters
from bodyforbody.changes import change_of, same_loops
from bodyforbody.machines import Machine


def rest_behind(mixes, letter):
    """What is left of those of the mixes that begin with the letter, behind it."""
    return tuple([mix[1:] for mix in mixes if mix[:1] == (letter,)])


def asking_machine(bodies, mixes):
    """The machine whose states are what may still come so that one of the mixes is done.

    It leads state 0 by these mixes, and by no others, to where nothing more is wanted. Where the mixes have all that
    is alike to them, two bodies that agree at a count leave the same to come when they are done so many times.
    """
    found = [mixes]
    numbers = {mixes: 0}
    entries = []
    while len(entries) < len(found):
        rests = [rest_behind(found[len(entries)], letter) for letter in range(bodies)]
        for rest in rests:
            if rest not in numbers:
                numbers[rest] = len(found)
                found.append(rest)
        entries.append([numbers[rest] for rest in rests])
    return Machine(bodies, entries)


def parting_machine(bodies, accords, one, other):
    """`None`, or some machine on which the bodies agree as told, but the mixes do not do the same."""
    told = checked_accords(bodies, accords)
    first = checked_letters(bodies, one, 2)
    second = checked_letters(bodies, other, 3)
    alike = alike_mixes(bodies, told, first)
    if second in alike:
        return None
    return asking_machine(bodies, alike)


def is_parting_machine(bodies, accords, one, other, value):
    """Whether any value is a machine on which the bodies agree as told, but the mixes do not do the same."""
    told = checked_accords(bodies, accords)
    first = checked_letters(bodies, one, 2)
    second = checked_letters(bodies, other, 3)
    if not isinstance(value, Machine) or value.commands != bodies:
        return False
    if not all([same_loops(value, (letter,), (behind,), count) for letter, behind, count in told]):
        return False
    return change_of(value, first) != change_of(value, second)
