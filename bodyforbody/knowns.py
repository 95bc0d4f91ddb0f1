"""What is known of a count: where it begins, what it is counted on by, and how far."""

from math import lcm

from bodyforbody.basics import is_number, is_tuple_of
from bodyforbody.errors import InvalidQuestion
from bodyforbody.joined import first_common


def is_known(value):
    """Whether any value is a triple of a number, a number from 1 on, and a number or `None`."""
    if not is_tuple_of(value, 3) or not is_number(value[0]) or not is_number(value[1]) or value[1] == 0:
        return False
    return value[2] is None or is_number(value[2])


def checked_known(value, at):
    """Any value, a known, as it is; `at` is the number of the argument."""
    if not is_known(value):
        raise InvalidQuestion(at)
    return value


def first_counts(known, many):
    """So many of the first counts of a known, or all, if there are fewer."""
    least, step, more = known
    if more is not None:
        many = min(many, more + 1)
    return [least + step * at for at in range(many)]


def last_counts(knowns):
    """The last counts of those of the knowns that have an end."""
    return [least + step * more for least, step, more in knowns if more is not None]


def both_known(one, other):
    """The known with the counts that are in both, `None` if there are none."""
    first = checked_known(one, 0)
    second = checked_known(other, 1)
    least = first_common(max(first[0], second[0]), first[:2], second[:2])
    if least is None:
        return None
    step = lcm(first[1], second[1])
    lasts = last_counts((first, second))
    if not lasts:
        return least, step, None
    if min(lasts) < least:
        return None
    more = (min(lasts) - least) // step
    return least, (step if more > 0 else 1), more
