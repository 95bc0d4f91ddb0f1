"""How many kinds of mixes there are."""

from bodyforbody.falling import checked_falling
from bodyforbody.mixes import first_steps


def short_runs(bodies, length, most):
    """How many mixes of this length have no letter more than `most` times side by side."""
    if length == 0:
        return 1
    # Those with a told first letter: it stands so often, then nothing, or a mix with another first letter.
    begun = [0]
    for size in range(1, length + 1):
        begun.append((1 if size <= most else 0) + (bodies - 1) * sum(begun[max(size - most, 0):]))
    return bodies * begun[length]


def kinds(falling, bodies, length):
    """How many lots of mixes of this length there are, if those that are surely alike are put in one."""
    row = checked_falling(falling)
    total = 0
    taken = 0
    for step in first_steps(row, length + 1):
        if taken > length:
            break
        # The step 0 takes nothing out: all mixes are left.
        most = step - 1 if step > 0 else length
        total += short_runs(bodies, length - taken, most)
        taken += step
    return total
