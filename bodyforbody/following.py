"""What follows from told counts."""

from bodyforbody.basics import checked_counts, is_ascending, is_number_below
from bodyforbody.closing import closing, tellers
from bodyforbody.falling import has


def follows(counts, count):
    """Whether any two bodies that agree at all of the counts agree at the number, on every machine."""
    return has(closing(counts), count)


def is_weaker(one, other):
    """Whether all that follows from the first counts follows from the second ones."""
    told = checked_counts(one)
    second = closing(checked_counts(other, 1))
    return all([has(second, count) for count in told])


def parting(one, other):
    """The least number that follows from just one of two lots of counts, `None` without any."""
    told = checked_counts(one)
    second = closing(checked_counts(other, 1))
    first = closing(told)
    # The least number that parts two closed sets is a teller of the one that has it.
    parted = [count for count in tellers(first) if not has(second, count)]
    parted.extend([count for count in tellers(second) if not has(first, count)])
    return min(parted, default=None)


def left_out(places, at):
    """The tuple without the thing with this index."""
    return places[:at] + places[at + 1:]


def follows_from(told, places, count):
    """Whether the number follows from the counts with these indexes."""
    return follows([told[place] for place in places], count)


def is_least_lot(counts, count, value):
    """Whether any value is a tuple of indexes of counts from which the number follows, and none can be left out."""
    told = checked_counts(counts)
    if not isinstance(value, tuple) or not all([is_number_below(place, len(told)) for place in value]):
        return False
    if not is_ascending(value) or not follows_from(told, value, count):
        return False
    return not any([follows_from(told, left_out(value, at), count) for at in range(len(value))])


def least_lot(counts, count):
    """`None`, or indexes of some counts from which the number follows, and none of which can be left out."""
    told = checked_counts(counts)
    places = tuple(range(len(told)))
    if not follows_from(told, places, count):
        return None
    # What can't be left out of many can't be left out of fewer: each index is asked about once, from behind.
    for at in reversed(range(len(told))):
        fewer = left_out(places, at)
        if follows_from(told, fewer, count):
            places = fewer
    return places
