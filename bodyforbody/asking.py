"""Asking at which counts two bodies agree, with as few questions as can be."""

from math import gcd

from bodyforbody.basics import checked_counts
from bodyforbody.counted import runs_by_sum
from bodyforbody.errors import Refused
from bodyforbody.falling import tells


def common_divisor(counts):
    """The greatest number that divides all of the counts, 0 if all are 0."""
    common = 0
    for count in counts:
        common = gcd(common, count)
    return common


def spread_runs(runs, end):
    """The runs of a falling row with the end 1, all steps so many times as great."""
    return tuple([(step * end, times) for step, times in runs])


def low_rows(common, height):
    """All falling rows as low as the height whose ends divide a number from 1 on."""
    table = runs_by_sum(height)
    rows = []
    for end in [divisor for divisor in range(1, common + 1) if common % divisor == 0]:
        for low in table[:height // end + 1]:
            rows.extend([(spread_runs(runs, end), end) for runs in low])
    return rows


def has_all(row, counts):
    """Whether all of the counts are in the set of a falling row."""
    return all([tells(row[0], row[1], count) for count in counts])


def has_any(row, counts):
    """Whether some of the counts are in the set of a falling row."""
    return any([tells(row[0], row[1], count) for count in counts])


def fitting_rows(yes, no, height):
    """All falling rows as low as the height whose set has all counts of `yes` and none of `no`, ascending."""
    common = common_divisor(yes)
    if common == 0:
        raise Refused(0)
    return sorted([row for row in low_rows(common, height) if has_all(row, yes) and not has_any(row, no)])


def possible_rows(yes, no, height):
    """All falling rows as low as the height that are as told."""
    agreed = checked_counts(yes)
    return tuple(fitting_rows(agreed, checked_counts(no, 1), height))


def most_left(rows, number):
    """How many of the falling rows are left at most when it is told whether their set has the number."""
    having = len([row for row in rows if tells(row[0], row[1], number)])
    return max(having, len(rows) - having)


def best_question(rows, bound):
    """The first number below the bound that parts the falling rows best."""
    return min(list(range(bound)), key=lambda number: most_left(rows, number))


def next_question(yes, no, height):
    """The first number that parts the possible falling rows best, `None` if there is just one of them."""
    agreed = checked_counts(yes)
    rows = fitting_rows(agreed, checked_counts(no, 1), height)
    if not rows:
        raise Refused(1)
    if len(rows) == 1:
        return None
    # From the height on, only what the common divisor leaves of a number matters.
    return best_question(rows, height + common_divisor(agreed))


def learned(ask, count, height):
    """The only falling row that fits all answers, and the numbers that were asked, each with its answer."""
    rows = fitting_rows((count,), (), height)
    asked = []
    while len(rows) > 1:
        number = best_question(rows, height + count)
        answer = ask(number)
        asked.append((number, answer))
        rows = [row for row in rows if tells(row[0], row[1], number) == answer]
    return rows[0], tuple(asked)
