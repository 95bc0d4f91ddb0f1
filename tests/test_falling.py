"""[10] and [11]: falling rows and the numbers of their sets."""

from bodyforbody.errors import InvalidQuestion, Refused
from bodyforbody.falling import has, is_falling, member_at, members_between, next_member
from tests.helpers import LONG, NO_FALLINGS, Case, plain_is_falling, plain_members, rows_of_sum, runs_of, some

ROWS = [((), end) for end in range(4)]
ROWS += [row for total in range(2, 13) for row in rows_of_sum(total)] + rows_of_sum(12, 2) + rows_of_sum(18, 3)


def fibonacci_row(runs):
    """As many runs as are wanted with the slowest growth: each step is the sum of the next two."""
    steps = [1, 2]
    while len(steps) <= runs:
        steps.append(steps[-1] + steps[-2])
    return tuple((step, 1) for step in reversed(steps[1:])), 1


class FallingRows(Case):
    def test_the_plain_ones(self):
        for value in ROWS + [(((12, 1),), 6), (((5, 1), (3, 1), (2, 1)), 1), (((LONG, LONG),), 1), ((), LONG)]:
            self.assertIs(True, is_falling(value), value)
            self.assertIs(True, is_falling(value=value))

    def test_any_other_value(self):
        for value in NO_FALLINGS:
            self.assertIs(False, is_falling(value), value)

    def test_against_the_closed_sets(self):
        numbers = some(7)
        for _ in range(1500):
            end = numbers.randint(1, 3)
            steps = [numbers.randint(1, 8) for _ in range(numbers.randint(0, 4))]
            steps = steps if numbers.random() < 0.1 else sorted(steps, reverse=True)
            falls = all(step > end for step in steps) and plain_is_falling(steps, end)
            falls = falls and steps == sorted(steps, reverse=True)
            self.assertIs(falls, is_falling((runs_of(steps), end)), (steps, end))

    def test_each_set_is_told_once(self):
        sets = [tuple(plain_members(row, 60)) for row in ROWS]
        self.assertEqual(len(ROWS), len(set(sets)))

    def test_300_runs_and_30_digits(self):
        self.assertIs(True, is_falling(fibonacci_row(140)))
        self.assertEqual(30, len(str(fibonacci_row(140)[0][0][0])))
        self.assertIs(True, is_falling(fibonacci_row(300)))
        runs = fibonacci_row(140)[0]
        self.assertIs(False, is_falling((((runs[0][0] - 1, 1),) + runs[1:], 1)))
        falling = tuple((10 ** 29 + at, 10 ** 29) for at in range(300, 0, -1))
        self.assertIs(False, is_falling((falling, 1)))


class Members(Case):
    def test_against_step_by_step(self):
        for row in ROWS:
            members = plain_members(row, 60)
            self.told([n in members for n in range(61)], [has(row, n) for n in range(61)])
            self.told(members[:20], [member_at(row, index) for index in range(min(20, len(members)))])
            for count in range(40):
                later = [n for n in members if n >= count]
                self.told(later[0] if later else None, next_member(row, count))
                for high in range(40):
                    many = len([n for n in members if count <= n < high])
                    self.told(many, members_between(row, count, high))

    def test_zero_alone(self):
        zero = ((), 0)
        self.told((True, False, 0, 0, None), (has(zero, 0), has(zero, 1), member_at(zero, 0), next_member(zero, 0),
                                              next_member(zero, 1)))
        self.told((1, 0, 0), (members_between(zero, 0, LONG), members_between(zero, 1, LONG),
                              members_between(zero, 0, 0)))
        self.refused(Refused, 0, member_at, zero, 1)
        self.refused(Refused, 0, member_at, zero, LONG)

    def test_multiples(self):
        many = ((), LONG)
        self.told((True, False, True), (has(many, LONG * LONG), has(many, LONG * LONG - 1), has(many, 0)))
        self.told((LONG * LONG, LONG * 2), (member_at(many, LONG), next_member(many, LONG + 1)))
        self.told(LONG - 1, members_between(many, LONG + 1, LONG * LONG + 1))

    def test_numbers_of_60_digits(self):
        row = (((10 ** 29, 10 ** 29), (10 ** 10, 10 ** 29)), 10 ** 9)
        first, second = 10 ** 58, 10 ** 58 + 10 ** 39
        self.told((True, False, True), (has(row, first - 10 ** 29), has(row, first - 10 ** 10),
                                        has(row, first + 10 ** 10)))
        self.told((True, False, True), (has(row, second + 10 ** 9), has(row, second - 10 ** 9),
                                        has(row, 10 ** 60 - 10 ** 9)))
        self.told(second + 10 ** 9, member_at(row, 2 * 10 ** 29 + 1))
        self.told(first + 10 ** 10, next_member(row, first + 1))
        self.told(10 ** 59 - 2 * 10 ** 9, next_member(row, 10 ** 59 - 2 * 10 ** 9 - 5))
        self.told(2 * 10 ** 29 + 1, members_between(row, 0, second + 1))
        self.told(0, members_between(row, 10 ** 59, 5))

    def test_300_runs(self):
        row = fibonacci_row(300)
        last = sum(step for step, _ in row[0])
        self.told((True, True), (has(row, last), has(row, last + 1)))
        self.told((last, last + 7, 301), (member_at(row, 300), member_at(row, 307), members_between(row, 0, last + 1)))
        self.told(row[0][0][0], next_member(row, 1))

    def test_by_name(self):
        row = (((3, 1),), 1)
        self.told((True, 3, 3), (has(count=3, falling=row), member_at(index=1, falling=row),
                                 next_member(count=1, falling=row)))
        self.told(2, members_between(high=5, low=1, falling=row))

    def test_no_falling_row(self):
        for value in NO_FALLINGS:
            for call in (has, member_at, next_member):
                self.refused(InvalidQuestion, 0, call, value, 1)
            self.refused(InvalidQuestion, 0, members_between, value, 3, 2)
