"""[18]: a body done several times."""

from bodyforbody.changes import change_of, power, ring, tail
from bodyforbody.errors import InvalidQuestion, InvalidRow
from bodyforbody.falling import has, is_falling
from bodyforbody.repeats import repeated, repeated_by
from tests.helpers import LONG, NO_NUMBERS, SHIFT, Case, machines, plain_members, rings_machine


class Repeats(Case):
    def test_against_one_by_one(self):
        for at, machine in enumerate(machines(17, 60, 8)):
            row = ((0,), (0, 1), (1, 1, 0))[at % 3]
            change = change_of(machine, row)
            for times in range(5):
                for others in range(5):
                    told = repeated(machine, row, times, others)
                    self.assertIs(True, is_falling(told))
                    wanted = [n for n in range(40) if power(change, times * n) == power(change, others * n)]
                    self.told(wanted, plain_members(told, 39))
                    self.told(told, repeated_by(tail(change), ring(change), times, others))

    def test_tails_and_rings(self):
        for before in range(7):
            for common in range(1, 7):
                change = tuple(range(1, before + common)) + (before,)
                for times in range(4):
                    for others in range(8):
                        told = repeated_by(before, common, times, others)
                        wanted = [n for n in range(30) if power(change, times * n) == power(change, others * n)]
                        self.told(wanted, plain_members(told, 29))

    def test_the_plain_cases(self):
        self.told(((), 1), repeated_by(5, 6, 3, 3))
        self.told(((), 1), repeated_by(5, 6, 0, 0))
        self.told(((), 0), repeated_by(5, 6, 0, 3))
        self.told(((), 2), repeated_by(0, 6, 0, 3))
        self.told(((), 2), repeated_by(0, 6, 3, 0))
        self.told((((4, 1),), 2), repeated_by(others=2, times=5, ring=6, tail=5))
        self.told(((), 1), repeated(SHIFT, (), 1, LONG))
        self.told(((), 0), repeated(SHIFT, (0,), 0, 1))
        self.told((((3, 1),), 1), repeated(others=2, times=1, row=[0], machine=SHIFT))

    def test_30_digits(self):
        self.told(((), 30), repeated_by(0, 30, 1, LONG - LONG % 30 + 2))
        self.told((((10 ** 15 + 2, 1),), 3), repeated_by(10 ** 29, 3, 10 ** 14, 10 ** 29 + 1))
        self.told((((10 ** 15, 1),), 1), repeated_by(10 ** 29, 3, 10 ** 14, 10 ** 29))
        row = repeated_by(LONG, 10 ** 9, 7, LONG)
        self.assertIs(True, is_falling(row))
        first = row[0][0][0]
        self.assertTrue(7 * first >= LONG > 7 * (first - row[1]) and has(row, first + row[1]))
        machine = rings_machine((4, 9), (1,) * 13)
        self.told(((), 36), repeated(machine, (0,), 10 ** 29, 10 ** 29 + 5))
        self.told(((), 1), repeated(machine, (0,), 10 ** 29, 10 ** 29 + 36))
        self.told(((), 4), repeated(machine, (0,), LONG, LONG - 9))

    def test_the_order_of_refusals(self):
        self.refused(InvalidRow, 1, repeated, SHIFT, (0, 2), True, None)
        for value in NO_NUMBERS:
            self.refused(InvalidQuestion, 2, repeated, SHIFT, (0,), value, value)
            self.refused(InvalidQuestion, 2, repeated, SHIFT, (0,), value, 1)
            self.refused(InvalidQuestion, 3, repeated, SHIFT, (0,), 1, value)
