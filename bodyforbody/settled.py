"""Closed sets of which, from some number on, only what a ring leaves of a number matters.

`holds` tells of a number whether it is in the set. What is asked of it from `start` on hangs on what `rings` leaves.
"""

from bodyforbody.basics import rounded_up
from bodyforbody.falling import falling_from
from bodyforbody.primes import prime_factors


def settled_end(start, rings, holds):
    """The greatest number that divides all of the set; 0 if the set is 0 alone."""
    far = rounded_up(start, rings)
    # A number of the set from 1 on has multiples there that the rings divide, too.
    if not holds(far):
        return 0
    end = rings
    for prime in prime_factors(rings):
        while end % prime == 0 and holds(far + end // prime):
            end = end // prime
    return end


def settled_row(start, rings, holds):
    """The falling row of the set."""
    end = settled_end(start, rings, holds)
    if end == 0:
        return (), 0
    members = [0] + [count for count in range(1, start) if holds(count)]
    return falling_from(members + [rounded_up(max(start, 1), end)], end)
