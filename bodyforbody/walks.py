"""Walks from a count to 0 by told lengths, and two loops behind each other."""

from bodyforbody.basics import are_numbers, checked_counts
from bodyforbody.changes import change_of, followed, power


def lengths_up_to(counts, count):
    """The told counts that can link two positions, ascending."""
    return sorted(set([length for length in checked_counts(counts) if 0 < length <= count]))


def linked_to(place, lengths, count):
    """The positions that are linked to this one."""
    near = []
    for length in lengths:
        near.extend([place - length, place + length])
    return [other for other in near if 0 <= other <= count]


def ways_to(goal, lengths, count):
    """For each position that hangs with the goal the next one on some shortest way there."""
    ways = {goal: goal}
    layer = [goal]
    while layer:
        found = []
        for place in layer:
            for other in linked_to(place, lengths, count):
                if other not in ways:
                    ways[other] = place
                    found.append(other)
        layer = found
    return ways


def hanging(counts, count):
    """The positions that hang with the count."""
    ways = ways_to(count, lengths_up_to(counts, count), count)
    return tuple(sorted(ways.keys()))


def walk(counts, count):
    """`None`, or some walk with the fewest positions."""
    ways = ways_to(0, lengths_up_to(counts, count), count)
    if count not in ways:
        return None
    places = [count]
    while places[-1] != 0:
        places.append(ways[places[-1]])
    return tuple(places)


def is_walk(counts, count, value):
    """Whether any value is a walk from the count to 0."""
    lengths = lengths_up_to(counts, count)
    if not isinstance(value, tuple) or len(value) == 0 or not are_numbers(value):
        return False
    if value[0] != count or value[-1] != 0 or max(value) > count:
        return False
    return all([abs(place - other) in lengths for place, other in zip(value, value[1:])])


def both_loops(machine, one, other, times, others):
    """The change of doing the first row `times` times, then the second one `others` times."""
    first = change_of(machine, one)
    second = change_of(machine, other)
    return followed(power(first, times), power(second, others))
