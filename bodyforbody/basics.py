"""Kinds of values that all modules ask for."""

from bodyforbody.errors import InvalidQuestion


def is_number(value):
    """Whether any value is an integer from 0 on, and no bool."""
    return isinstance(value, int) and not isinstance(value, bool) and value >= 0


def is_number_below(value, bound):
    """Whether any value is a number less than the bound."""
    return is_number(value) and value < bound


def are_numbers(values):
    """Whether all things of a sequence are numbers."""
    return all([is_number(value) for value in values])


def is_sequence(value):
    """Whether any value is a list or a tuple."""
    return isinstance(value, (list, tuple))


def is_tuple_of(value, size):
    """Whether any value is a tuple of so many things."""
    return isinstance(value, tuple) and len(value) == size


def is_ascending(values):
    """Whether each thing of a sequence is less than the next one."""
    return all([low < high for low, high in zip(values, values[1:])])


def checked_counts(value, at=0):
    """Any value, a sequence of numbers, as a tuple; `at` is the number of the argument."""
    if not is_sequence(value) or not are_numbers(value):
        raise InvalidQuestion(at)
    return tuple(value)


def rounded_up(number, step):
    """The least multiple of the step that is not less than the number."""
    return (number + step - 1) // step * step
