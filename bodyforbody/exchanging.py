"""Exchanges that lead from one mix to another."""

from bodyforbody.basics import are_numbers, is_number_below, is_tuple_of
from bodyforbody.falling import checked_falling, tells
from bodyforbody.mixes import LETTERS, block_at, checked_mix, first_steps, is_block


def exchanged(mix, at, count, letter):
    """The mix in which so many letters, from an index on, have become this one."""
    return mix[:at] + (letter,) * count + mix[at + count:]


def exchange_block(mix, at, count, letter, done):
    """The mix with a block exchanged; the exchange and the letter before it are put behind `done`."""
    if count == 0 or mix[at] == letter:
        return mix
    done.append((at, count, letter, mix[at]))
    return exchanged(mix, at, count, letter)


def gathered(falling, mix, done):
    """The mix with all that can be taken out as equal letters at its front; puts the exchanges behind `done`.

    What is taken out is a block with a count of the set. Made equal to its neighbour, it can be parted from its other
    end, so it goes past any letter; beside the letters that are taken out next, it becomes the next block.
    """
    letters = mix
    held = 0
    for step in first_steps(falling, len(mix)):
        place = block_at(letters[held:], step)
        if place is None:
            break
        for at in range(place + 1):
            letters = exchange_block(letters, at, held, letters[at + held], done)
        held += step
        for at in range(place, 0, -1):
            letters = exchange_block(letters, at, held, letters[at - 1], done)
    return exchange_block(letters, 0, held, 0, done)


def exchanges(falling, one, other):
    """`None`, or some exchanges that lead the first mix to the second."""
    row = checked_falling(falling)
    first = checked_mix(one, 1)
    second = checked_mix(other, 2)
    done = []
    undone = []
    if gathered(row, first, done) != gathered(row, second, undone):
        return None
    there = [(at, count, letter) for at, count, letter, _ in done]
    back = [(at, count, before) for at, count, _, before in reversed(undone)]
    return tuple(there + back)


def is_exchange(mix, value):
    """Whether any value is a triple that makes equal letters of the mix another one, or the same."""
    if not is_tuple_of(value, 3) or not are_numbers(value):
        return False
    at, count, letter = value
    return is_number_below(letter, LETTERS) and is_block(mix, at, count)


def is_exchanges(falling, one, other, value):
    """Whether any value is a tuple of exchanges that lead the first mix to the second."""
    runs, end = checked_falling(falling)
    mix = checked_mix(one, 1)
    goal = checked_mix(other, 2)
    if not isinstance(value, tuple):
        return False
    for exchange in value:
        if not is_exchange(mix, exchange) or not tells(runs, end, exchange[1]):
            return False
        mix = exchanged(mix, exchange[0], exchange[1], exchange[2])
    return mix == goal
