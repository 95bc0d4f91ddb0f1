"""[44]: mixes, what is left of them, which are surely alike."""

from itertools import product

from bodyforbody.errors import InvalidQuestion
from bodyforbody.falling import is_falling
from bodyforbody.mixes import leftover, surely_alike, surely_pure
from tests.helpers import (LONG, NO_FALLINGS, NO_MIXES, Case, low_rows, mixes_of, plain_lots, random_row, some,
                           steep_row, ways_of)

ROWS = low_rows(7) + low_rows(8, 2) + [((), 3), ((), 4), ((), 0), (((6, 1),), 3)]


def steps_of(row, many):
    """The first steps of a falling row, one by one."""
    steps = [step for step, times in row[0] for _ in range(min(times, many))]
    return (steps + [row[1]] * many)[:many]


def taken_out(row, mix, numbers):
    """The leftover, if of the blocks that could be taken out any one is."""
    left = list(mix)
    for step in steps_of(row, len(mix)):
        places = [at for at in range(len(left) - step + 1) if step and len({*left[at:at + step]}) == 1]
        if not places:
            break
        at = numbers.choice(places)
        del left[at:at + step]
    return len(mix) - len(left), tuple(left)


class Leftovers(Case):
    def test_whichever_letters_are_taken_out(self):
        numbers = some(72)
        for _ in range(3000):
            row = numbers.choice(ROWS) if numbers.randrange(2) else random_row(numbers, numbers.choice((1, 2)))
            bodies = numbers.choice((1, 2, 2, 3, 8))
            mix = tuple(numbers.randrange(bodies) for _ in range(numbers.randrange(16)))
            self.told(taken_out(row, mix, numbers), leftover(row, mix))

    def test_the_plain_ones(self):
        for row in ROWS:
            self.told((0, ()), leftover(row, ()))
        self.told((60, ()), leftover(((), 1), tuple(at % 8 for at in range(60))))
        self.told((60, ()), leftover((((60, LONG),), 1), (3,) * 60))
        self.told((0, (3,) * 59), leftover((((60, LONG),), 1), (3,) * 59))
        self.told((0, (3,) * 60), leftover((((61, LONG),), 1), (3,) * 60))
        self.told((50, (7,) * 10), leftover(falling=(((50, 1), (20, 2)), 10), mix=(7,) * 60))
        self.told((60, ()), leftover((((50, 1), (5, 2)), 1), (7,) * 60))

    def test_the_end_0(self):
        for mix in ((), (0,), (5,) * 60, (0, 1) * 30):
            self.told((0, mix), leftover(((), 0), mix))

    def test_the_first_step_1(self):
        for mix in product(range(3), repeat=3):
            self.told((3, ()), leftover(((), 1), mix))

    def test_great_steps_and_many_runs(self):
        self.told((0, (1,) * 60), leftover(((), LONG), (1,) * 60))
        self.told((4, (1, 0)), leftover((((4, LONG), (2, LONG)), 1), (1, 1, 1, 1, 1, 0)))
        row = steep_row(73, 300)
        self.told((0, (1,) * 60), leftover(row, (1,) * 60))

    def test_refusals(self):
        for value in NO_FALLINGS:
            self.refused(InvalidQuestion, 0, leftover, value, (0,))
            self.refused(InvalidQuestion, 0, leftover, value, None)
        for value in NO_MIXES:
            self.refused(InvalidQuestion, 1, leftover, ((), 2), value)
            self.refused(InvalidQuestion, 0, leftover, falling=((), True), mix=value)


class Alike(Case):
    def test_against_exchanges(self):
        for row in ROWS:
            for bodies, length in ((1, 4), (2, 6), (3, 4)):
                lots = plain_lots(mixes_of(bodies, length), ways_of(row, bodies, length))
                lot_of = {mix: at for at, lot in enumerate(lots) for mix in lot}
                firsts = [lot[0] for lot in lots]
                for mix in mixes_of(bodies, length):
                    self.assertIs(True, surely_alike(row, firsts[lot_of[mix]], mix))
                for one, other in product(firsts, firsts):
                    self.assertIs(one == other, surely_alike(row, one, other))

    def test_unlike_lengths(self):
        for row in ROWS:
            self.assertIs(False, surely_alike(row, (0,) * 6, (0,) * 5))
            self.assertIs(False, surely_alike(row, (), (0,) * 2))
            self.assertIs(True, surely_alike(row, (), ()))
        self.assertIs(False, surely_alike(((), 1), (0,) * 60, (0,) * 59))

    def test_60_letters(self):
        row = (((8, 3), (4, 2)), 2)
        self.assertIs(True, is_falling(row))
        one = (0,) * 8 + (1, 2) * 10 + (3,) * 8 + (1,) * 8 + (2, 1) * 8
        other = (1, 2) * 10 + (7,) * 24 + (2, 1) * 8
        self.told((60, 60), (len(one), len(other)))
        self.assertIs(True, surely_alike(row, one, other))
        self.assertIs(False, surely_alike(row, one, other[:-2] + (1, 2)))
        self.assertIs(True, surely_alike(row, (0, 1) * 26 + (3,) * 8, (7,) * 8 + (0, 1) * 26))

    def test_refusals(self):
        self.refused(InvalidQuestion, 0, surely_alike, ((), -1), None, None)
        self.refused(InvalidQuestion, 1, surely_alike, ((), 1), None, None)
        for value in NO_FALLINGS:
            self.refused(InvalidQuestion, 0, surely_alike, value, (0,), (0,))
            self.refused(InvalidQuestion, 0, surely_pure, value, (0,))
            self.refused(InvalidQuestion, 0, surely_pure, value, None)
        for value in NO_MIXES:
            self.refused(InvalidQuestion, 1, surely_alike, ((), 0), value, (0,))
            self.refused(InvalidQuestion, 2, surely_alike, other=value, one=(0,), falling=((), 0))
            self.refused(InvalidQuestion, 1, surely_pure, falling=((), 0), mix=value)


class Pure(Case):
    def test_against_exchanges(self):
        for row in ROWS:
            for bodies, length in ((1, 5), (2, 6), (3, 5), (2, 0)):
                for lot in plain_lots(mixes_of(bodies, length), ways_of(row, bodies, length)):
                    wanted = any(len(set(mix)) <= 1 for mix in lot)
                    for mix in lot:
                        self.assertIs(wanted, surely_pure(row, mix))

    def test_the_plain_ones(self):
        for row in ROWS:
            self.told([True] * 4, [surely_pure(row, mix) for mix in ((), (4,), (4,) * 60, (0,) * 7)])
        self.assertIs(False, surely_pure(((), 0), (0, 1)))
        self.assertIs(True, surely_pure(((), 1), (0, 1, 2, 3, 4, 5, 6, 7)))
