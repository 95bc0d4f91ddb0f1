"""[47]: machines that part all short mixes that are not surely alike."""

from itertools import product

from bodyforbody.closing import tellers
from bodyforbody.errors import InvalidQuestion, Refused
from bodyforbody.mixcounts import kinds
from bodyforbody.mixers import mixer
from bodyforbody.mixes import leftover
from tests.helpers import LONG, NO_FALLINGS, Case, low_rows, mixes_of, plain_power, random_row, some

ROWS = low_rows(8) + low_rows(8, 2) + [((), 0), ((), 3), ((), 5), (((6, 2),), 3)]


def how_many(row, bodies, length):
    return sum(kinds(row, bodies, size) for size in range(length + 1))


class Mixers(Case):
    def check(self, row, bodies, length):
        machine = mixer(row, bodies, length)
        self.told(bodies, machine.commands)
        self.assertLessEqual(machine.states, 40)
        columns = list(zip(*machine.steps))
        for count in tellers(row):
            if count < 300:
                self.told(1, len({plain_power(column, count) for column in columns}))
        ends = {}
        for size in range(length + 1):
            for mix in mixes_of(bodies, size) if bodies ** size < 9000 else ():
                state = 0
                for letter in mix:
                    state = machine.steps[state][letter]
                ends.setdefault(state, set()).add(leftover(row, mix))
        for found in ends.values():
            self.told(1, len(found))
        return machine

    def test_all_that_are_not_refused(self):
        for row in ROWS:
            for bodies in (1, 2, 3, 8):
                length = 0
                while how_many(row, bodies, length) <= 39 and length < 14:
                    self.check(row, bodies, length)
                    length += 1
                if length < 14:
                    self.refused(Refused, 0, mixer, row, bodies, length)

    def test_one_body(self):
        for row in (((), 0), ((), 1), (((5, 1), (3, 1), (2, 1)), 1), ((), LONG)):
            machine = self.check(row, 1, 38)
            self.told(40, machine.states)
            self.refused(Refused, 0, mixer, row, 1, 39)

    def test_the_length_0(self):
        for row, bodies in product(ROWS, range(1, 9)):
            self.check(row, bodies, 0)

    def test_as_many_kinds_as_39(self):
        # ((), 1): one kind of each length, whatever the letters are.
        self.told(39, how_many(((), 1), 8, 38))
        self.check(((), 1), 8, 38)
        self.refused(Refused, 0, mixer, ((), 1), 8, 39)
        self.told(39, how_many((((2, 1),), 1), 2, 13))
        self.check((((2, 1),), 1), 2, 13)
        self.refused(Refused, 0, mixer, (((2, 1),), 1), 2, 14)
        for row, bodies, length in (((((4, 1), (2, 1)), 1), 3, 3), ((((2, 2),), 1), 2, 9), (((), 6), 3, 3)):
            self.told(40, how_many(row, bodies, length))
            self.refused(Refused, 0, mixer, row, bodies, length)
            self.check(row, bodies, length - 1)

    def test_a_great_length(self):
        for row in ROWS:
            self.refused(Refused, 0, mixer, falling=row, bodies=8, length=LONG)

    def test_some_rows(self):
        numbers = some(77)
        for _ in range(60):
            row, bodies = random_row(numbers, numbers.choice((1, 2, 3, 30))), numbers.randint(1, 4)
            length = 0
            while how_many(row, bodies, length + 1) <= 39 and length < 9:
                length += 1
            self.check(row, bodies, length)

    def test_refusals(self):
        for value in NO_FALLINGS:
            self.refused(InvalidQuestion, 0, mixer, value, 2, 2)
            self.refused(InvalidQuestion, 0, mixer, value, 8, 100)
        self.refused(Refused, 0, mixer, ((), 0), 2, 5)
