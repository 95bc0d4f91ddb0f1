"""Mixes: which of several bodies is done in each round."""

from bodyforbody.basics import is_number_below
from bodyforbody.errors import InvalidQuestion
from bodyforbody.falling import checked_falling

LETTERS = 8


def is_mix(value, bodies):
    """Whether any value is a tuple of letters of so many bodies."""
    return isinstance(value, tuple) and all([is_number_below(letter, bodies) for letter in value])


def checked_mix(value, at):
    """Any value, a mix, as it is; `at` is the number of the argument."""
    if not is_mix(value, LETTERS):
        raise InvalidQuestion(at)
    return value


def first_steps(falling, many):
    """So many of the first steps of a falling row; if its end is 0, only this."""
    runs, end = falling
    if end == 0:
        return [0]
    steps = []
    for step, times in runs:
        steps.extend([step] * min(times, many - len(steps)))
    return steps + [end] * (many - len(steps))


def is_block(mix, at, count):
    """Whether from an index on so many letters, one at least, stand in the mix and are equal."""
    return at + count <= len(mix) and len(set(mix[at:at + count])) == 1


def block_at(mix, count):
    """The first index from which on so many letters, one at least, are equal; `None` without any."""
    for at in range(len(mix) - count + 1):
        if is_block(mix, at, count):
            return at
    return None


def left_of(falling, mix):
    """How many letters of a mix are taken out, and those that are left."""
    left = mix
    for step in first_steps(falling, len(mix)):
        at = block_at(left, step)
        if at is None:
            break
        left = left[:at] + left[at + step:]
    return len(mix) - len(left), left


def leftover(falling, mix):
    """How many letters are taken out, and those that are left."""
    row = checked_falling(falling)
    return left_of(row, checked_mix(mix, 1))


def surely_alike(falling, one, other):
    """Whether both mixes do the same wherever any two bodies agree at all counts of the set."""
    row = checked_falling(falling)
    first = checked_mix(one, 1)
    return left_of(row, first) == left_of(row, checked_mix(other, 2))


def surely_pure(falling, mix):
    """Whether the mix is surely alike to one of as many equal letters."""
    return len(set(leftover(falling, mix)[1])) <= 1
