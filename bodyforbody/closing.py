"""Closings of counts, derivations, tellers."""

from bodyforbody.basics import are_numbers, checked_counts, is_tuple_of
from bodyforbody.falling import add_run, checked_falling, has


def closing(counts):
    """The falling row of the least closed set that has all of the counts."""
    left = sorted(set([count for count in checked_counts(counts) if count > 0]))
    if not left:
        return (), 0
    runs = []
    while len(left) > 1:
        least = left[0]
        # So often the least count can be taken from the others until one of them is not greater than it.
        times = (left[1] - 1) // least
        add_run(runs, least, times)
        left = sorted(set([least] + [count - least * times for count in left[1:]]))
    if runs:
        # The last step is the only count that is left: it belongs to the end.
        runs.pop()
    return tuple(runs), left[0]


def add_multiple(triples, base, step, times):
    """Derives base + step * times, if base and base + step are known: the multiples of the step, as seen from base."""
    done = 1
    figures = f"{times:b}"
    for figure in figures[1:]:
        triples.append((base + step * done, base + step * done, base))
        done = done * 2
        if figure == "1":
            triples.append((base + step * done, base + step, base))
            done += 1


def up_to(triples, count):
    """The triples up to the first one that derives the count."""
    ends = [at for at, (high, other, low) in enumerate(triples) if high + other - low == count]
    return tuple(triples[:ends[0] + 1])


def derivation(counts, count):
    """`None`, or some derivation of the number from the counts."""
    told = checked_counts(counts)
    runs, end = closing(told)
    if not has((runs, end), count):
        return None
    if count == 0 or count in told:
        return ()
    triples = []
    base = 0
    for step, times in runs:
        if count <= base + step * times:
            add_multiple(triples, base, step, (count - base) // step)
            return up_to(triples, count)
        # This step stays among the counts that are left, so it must be known behind the run, too.
        add_multiple(triples, base, step, times)
        triples.append((base + step * times, base + step, base))
        base += step * times
    add_multiple(triples, base, end, (count - base) // end)
    return up_to(triples, count)


def is_derivation(counts, count, value):
    """Whether any value is a derivation of the number from the counts."""
    known = {told: True for told in checked_counts(counts)}
    known[0] = True
    if not isinstance(value, tuple):
        return False
    if len(value) == 0:
        return count in known
    made = 0
    for triple in value:
        if not is_tuple_of(triple, 3) or not are_numbers(triple):
            return False
        high, other, low = triple
        if low > min(high, other) or not all([number in known for number in triple]):
            return False
        made = high + other - low
        known[made] = True
    return made == count


def tellers(falling):
    """The counts with this closing of which none can be left out."""
    runs, end = checked_falling(falling)
    firsts = []
    following = {}
    base = 0
    # What one step more leads to behind two neighbours follows from them: in a run all but its first number do.
    for step, times in runs:
        firsts.append(base + step)
        base += step * times
        following[base + step] = True
    if end > 0:
        firsts.append(base + end)
    return tuple([first for first in firsts if first not in following])
