"""[28]: two closed sets together."""

from itertools import combinations

from bodyforbody.closing import closing
from bodyforbody.court import agreeing
from bodyforbody.errors import InvalidQuestion
from bodyforbody.falling import has, is_falling
from bodyforbody.joined import both, is_part, together
from bodyforbody.machines import Machine
from tests.helpers import LONG, NO_FALLINGS, Case, machines, plain_closing, plain_members, some, steep_row

LOTS = [lot for size in range(4) for lot in combinations(range(1, 13), size)]


def pairs(seed, many):
    numbers = some(seed)
    for _ in range(many):
        yield closing(numbers.choice(LOTS)), closing(numbers.choice(LOTS))


class TwoSets(Case):
    def test_against_plain_members(self):
        for one, other in pairs(37, 1500):
            first, second = plain_members(one, 170), plain_members(other, 170)
            self.assertIs(set(first) <= set(second), is_part(one, other))
            row = both(one, other)
            self.assertIs(True, is_falling(row))
            self.told([n for n in first if n in set(second)], plain_members(row, 170))

    def test_together_against_plain_closings(self):
        for one, other in pairs(38, 250):
            row = together(one, other)
            self.assertIs(True, is_falling(row))
            bound = 26
            numbers = plain_closing(plain_members(one, bound) + plain_members(other, bound), bound)
            self.told(numbers, plain_members(row, bound))

    def test_either_way_round_and_with_itself(self):
        for one, other in pairs(39, 100):
            self.told(both(one, other), both(other, one))
            self.told(together(one, other), together(other, one))
            self.told((one, one, True), (both(one, one), together(one, one), is_part(one, one)))
            self.told(is_part(one, other), both(one, other) == one)
            self.told(is_part(one, other), together(one, other) == other)

    def test_zero_alone_and_multiples(self):
        none, some_row = ((), 0), (((5, 1), (3, 1), (2, 1)), 1)
        for row in (none, some_row, ((), 4), ((), 1)):
            self.told((none, none), (both(none, row), both(row, none)))
            self.told((row, row), (together(none, row), together(row, none)))
            self.told((True, row == none), (is_part(none, row), is_part(row, none)))
            self.told((row, ((), 1)), (both(((), 1), row), together(row, ((), 1))))
        self.told((((), 12), (((4, 1),), 2)), (both(((), 4), ((), 6)), together(((), 4), ((), 6))))
        self.told((((), 5), (((15, 1),), 5)), (both((((4, 1),), 1), ((), 5)), both((((8, 1), (7, 1)), 1), ((), 5))))

    def test_pairs_of_bodies_side_by_side(self):
        for one, other in zip(machines(40, 60, 5), machines(41, 60, 5)):
            steps = [(a * other.states + x, b * other.states + y) for a, b in one.steps for x, y in other.steps]
            joined = Machine(2, steps)
            self.told(agreeing(joined, (0,), (1,)), both(agreeing(one, (0,), (1,)), agreeing(other, (0,), (1,))))

    def test_many_steps_of_30_digits(self):
        numbers = some(42)
        rows = [steep_row(43, 300), steep_row(44, 300), steep_row(45, 300, 6), steep_row(46, 50, 10 ** 15),
                closing((10 ** 29, 10 ** 29 + 1)), closing((2, LONG)), closing((3, LONG - 1)), ((), LONG), ((), 1)]
        for one in rows:
            for other in rows:
                row, more = both(one, other), together(one, other)
                self.assertTrue(is_falling(row) and is_falling(more))
                self.assertTrue(is_part(row, one) and is_part(row, other) and is_part(one, more))
                for size in range(1, 32):
                    count = numbers.randrange(10 ** size)
                    self.assertIs(has(one, count) and has(other, count), has(row, count))
                self.assertIs(one == row, is_part(one, other))

    def test_by_name(self):
        self.told(((((6, 1),), 3), (((4, 1),), 2), False),
                  (both(other=((), 3), one=(((4, 1),), 1)), together(other=((), 6), one=(((4, 1),), 2)),
                   is_part(other=((), 6), one=((), 3))))

    def test_no_falling_rows(self):
        for value in NO_FALLINGS:
            for call in (is_part, both, together):
                self.refused(InvalidQuestion, 0, call, value, value)
                self.refused(InvalidQuestion, 0, call, value, ((), 1))
                self.refused(InvalidQuestion, 1, call, ((), 0), value)
