"""Counts of which a multiple and something more is in a closed set."""

from math import lcm

from bodyforbody.falling import checked_falling, tells
from bodyforbody.joined import add_members, first_common, pieces_of


def spans_of(falling, times, plus):
    """Where the counts begin to be counted on by a step: triples (count, step, how often), the last one without end.

    Each piece of the set has some; so has the last one, if any has.
    """
    pieces = pieces_of(falling)
    spans = []
    for at, piece in enumerate(pieces):
        base, step = piece
        common = lcm(step, times)
        number = first_common(max(base, plus), piece, (plus, times))
        if number is None:
            continue
        if at + 1 == len(pieces):
            spans.append(((number - plus) // times, common // times, 0))
        elif number <= pieces[at + 1][0]:
            spans.append(((number - plus) // times, common // times, (pieces[at + 1][0] - number) // common))
    return spans


def spread_row(spans):
    """The falling row of what all counts are less the least one."""
    runs = []
    last = spans[0][0]
    for number, step, many in spans:
        last = add_members(runs, last, number, step, many)
    end = spans[-1][1]
    if runs and runs[-1][0] == end:
        runs.pop()
    return tuple(runs), end


def spread(falling, times, plus):
    """`None`, or the least n with `times * n + plus` in the set, and what all of them are less this one."""
    row = checked_falling(falling)
    if times == 0:
        return (0, ((), 1)) if tells(row[0], row[1], plus) else None
    if row[1] == 0:
        return (0, ((), 0)) if plus == 0 else None
    spans = spans_of(row, times, plus)
    if not spans:
        return None
    return spans[0][0], spread_row(spans)
