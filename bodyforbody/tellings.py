"""What is surely so if two bodies agree at some counts and do not at others."""

from bodyforbody.basics import checked_counts
from bodyforbody.closing import closing
from bodyforbody.errors import Refused
from bodyforbody.falling import has


def parts_all(yes, no):
    """Whether none of the counts `no` follows from the counts `yes`."""
    row = closing(yes)
    return not any([has(row, count) for count in no])


def is_possible(yes, no):
    """Whether two bodies on some machine agree at all counts of `yes`, and at none of `no`."""
    agreed = checked_counts(yes)
    return parts_all(agreed, checked_counts(no, 1))


def sureness(yes, no, count):
    """Whether all bodies as told agree at the number: `False` if none do, `None` if some do, but not all."""
    agreed = checked_counts(yes)
    parted = checked_counts(no, 1)
    if not parts_all(agreed, parted):
        raise Refused(0)
    if has(closing(agreed), count):
        return True
    if not parts_all(agreed + (count,), parted):
        return False
    return None
