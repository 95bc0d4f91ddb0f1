"""Two closed sets together."""

from math import gcd, lcm

from bodyforbody.basics import rounded_up
from bodyforbody.closing import closing, tellers
from bodyforbody.falling import add_run, checked_falling, tells


def is_part(one, other):
    """Whether all numbers of the first set are in the second."""
    first = checked_falling(one)
    runs, end = checked_falling(other, 1)
    return all([tells(runs, end, count) for count in tellers(first)])


def inverse(number, modulus):
    """What the number is to be taken times, so that 1 is left when it is divided; both have no common divisor."""
    rest, other_rest = number % modulus, modulus
    times, other_times = 1, 0
    while rest > 0:
        whole = other_rest // rest
        rest, other_rest = other_rest - whole * rest, rest
        times, other_times = other_times - whole * times, times
    return other_times % modulus


def first_common(low, piece, other):
    """The least number from `low` on that two pieces (base, step), taken without end, both have; `None` without any."""
    base, step = piece
    other_base, other_step = other
    shared = gcd(step, other_step)
    if (other_base - base) % shared != 0:
        return None
    modulus = other_step // shared
    times = (other_base - base) // shared * inverse(step // shared, modulus) % modulus
    return low + (base + step * times - low) % (step * modulus)


def pieces_of(falling):
    """The numbers from which on one step is done again and again, each with this step."""
    runs, end = falling
    pieces = []
    base = 0
    for step, times in runs:
        pieces.append((base, step))
        base += step * times
    return pieces + [(base, end)]


def overlaps(pieces, others):
    """Where the pieces of two sets meet: triples (number, piece, other piece) of where both begin to be done."""
    found = []
    at = other_at = 0
    bounds = sorted(set([piece[0] for piece in pieces + others]))
    for low in bounds:
        while at + 1 < len(pieces) and pieces[at + 1][0] <= low:
            at += 1
        while other_at + 1 < len(others) and others[other_at + 1][0] <= low:
            other_at += 1
        found.append((low, pieces[at], others[other_at]))
    return found


def add_members(runs, last, number, step, times):
    """Puts the number behind the last one of a list of runs, then so many steps; returns the new last one."""
    if number > last:
        add_run(runs, number - last, 1)
    if times > 0:
        add_run(runs, step, times)
    return number + step * times


def both_rows(first, second):
    """The falling row of the set of all numbers that are in both sets."""
    if first[1] == 0 or second[1] == 0:
        return (), 0
    runs = []
    last = 0
    meetings = overlaps(pieces_of(first), pieces_of(second))
    for meeting, behind in zip(meetings, meetings[1:]):
        low, piece, other = meeting
        number = first_common(low, piece, other)
        if number is not None and number <= behind[0]:
            step = lcm(piece[1], other[1])
            last = add_members(runs, last, number, step, (behind[0] - number) // step)
    end = lcm(first[1], second[1])
    add_members(runs, last, rounded_up(meetings[-1][0], end), end, 0)
    if runs and runs[-1][0] == end:
        runs.pop()
    return tuple(runs), end


def both(one, other):
    """The falling row of the set of all numbers that are in both sets."""
    first = checked_falling(one)
    return both_rows(first, checked_falling(other, 1))


def together(one, other):
    """The falling row of the least closed set that has all numbers of both sets."""
    first = checked_falling(one)
    return closing(tellers(first) + tellers(checked_falling(other, 1)))
