"""Machines that part all short mixes that are not surely alike."""

from bodyforbody.errors import Refused
from bodyforbody.falling import checked_falling
from bodyforbody.machines import Machine
from bodyforbody.mixcounts import kinds
from bodyforbody.mixes import left_of

MOST_KINDS = 39


def check_few(falling, bodies, length):
    """Refuses lengths up to which there are too many kinds of mixes; there is one at least of each length."""
    total = 0
    for size in range(length + 1):
        total += kinds(falling, bodies, size)
        if total > MOST_KINDS:
            raise Refused(0)


def mixer(falling, bodies, length):
    """A machine on which all commands agree at the set's counts, and mixes not surely alike lead 0 to unlike states."""
    row = checked_falling(falling)
    check_few(row, bodies, length)
    # The states are the kinds of mixes, each told by the first one found; behind them stands what is longer.
    mixes = [()]
    numbers = {(0, ()): 0}
    entries = []
    while len(entries) < len(mixes):
        mix = mixes[len(entries)]
        entry = []
        for letter in range(bodies):
            longer = mix + (letter,)
            kind = left_of(row, longer)
            if len(mix) < length and kind not in numbers:
                numbers[kind] = len(mixes)
                mixes.append(longer)
            entry.append(numbers.get(kind))
        entries.append(entry)
    behind = len(mixes)
    entries = [[behind if state is None else state for state in entry] for entry in entries]
    return Machine(bodies, entries + [[behind] * bodies])
