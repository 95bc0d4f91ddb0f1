"""Papers: a few counts that show at which counts two bodies agree."""

from bodyforbody.basics import are_numbers, is_ascending, is_tuple_of, rounded_up
from bodyforbody.changes import change_of, latest_tail, power, shared_ring
from bodyforbody.closing import tellers
from bodyforbody.court import agreeing_changes, alike_at, first_fault
from bodyforbody.falling import has, is_falling, runs_sum
from bodyforbody.primes import prime_factors


def counts_below(falling, start):
    """The counts less than the reach that are not in the set."""
    return [count for count in range(start) if not has(falling, count)]


def counts_behind(end, start, rings):
    """Counts from the reach on, ascending, that show that no lesser end would do."""
    if end == 0:
        return [rounded_up(start, rings)]
    return sorted([rounded_up(start, end) + end // prime for prime in prime_factors(end)])


def court_paper(machine, one, other):
    """Some paper for the two rows."""
    first = change_of(machine, one)
    second = change_of(machine, other)
    falling = agreeing_changes(first, second)
    start = latest_tail((first, second))
    counts = counts_below(falling, start) + counts_behind(falling[1], start, shared_ring((first, second)))
    return falling, tuple([(count, first_fault(first, second, count)[0]) for count in counts])


def is_parting(first, second, value):
    """Whether any value is a pair of a count and a state that both changes, done so often, lead to unlike ends."""
    if not is_tuple_of(value, 2) or not are_numbers(value) or value[1] >= len(first):
        return False
    return power(first, value[0])[value[1]] != power(second, value[0])[value[1]]


def has_paper_form(first, second, value):
    """Whether any value is a falling row and an ascending tuple of counts and states that part the changes."""
    if not is_tuple_of(value, 2) or not is_falling(value[0]) or not isinstance(value[1], tuple):
        return False
    return all([is_parting(first, second, pair) for pair in value[1]]) and is_ascending(value[1])


def has_multiple(counts, divisor):
    """Whether one of the counts is a multiple of the divisor."""
    return any([count % divisor == 0 for count in counts])


def shows_end(end, start, rings, counts):
    """Whether counts that part the changes show that no lesser end would do."""
    behind = [count for count in counts if count >= start]
    if end == 0:
        return has_multiple(behind, rings)
    return all([has_multiple(behind, end // prime) for prime in prime_factors(end)])


def is_court_paper(machine, one, other, value):
    """Whether any value is a paper for the two rows."""
    first = change_of(machine, one)
    second = change_of(machine, other)
    if not has_paper_form(first, second, value):
        return False
    falling, pairs = value
    end = falling[1]
    start = latest_tail((first, second))
    rings = shared_ring((first, second))
    # Facts [16] and [17]: another end has no paper. Of this one the primes are small, and so are soon found.
    if end > 0 and (rings % end != 0 or runs_sum(falling) > rounded_up(start, end)):
        return False
    if not all([alike_at(first, second, count) for count in tellers(falling)]):
        return False
    counts = [pair[0] for pair in pairs]
    shown = {count: True for count in counts}
    return all([count in shown for count in counts_below(falling, start)]) and shows_end(end, start, rings, counts)
