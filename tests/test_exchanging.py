"""[46]: exchanges that lead from one mix to another."""

from itertools import product

from bodyforbody.errors import InvalidQuestion
from bodyforbody.exchanging import exchanges, is_exchanges
from bodyforbody.falling import has
from bodyforbody.mixes import surely_alike
from tests.helpers import (LONG, NO_FALLINGS, NO_MIXES, Case, low_rows, mixes_of, plain_lots, plain_members, random_row,
                           some, steep_row, ways_of)

ROWS = low_rows(7) + low_rows(8, 2) + [((), 3), ((), 0), (((6, 1),), 3)]


class Exchanges(Case):
    def check(self, row, one, other):
        told = exchanges(row, one, other)
        self.assertIs(surely_alike(row, one, other), told is not None)
        self.assertIs(told is not None, told is not None and is_exchanges(row, one, other, told))
        if told is not None:
            mix = list(one)
            for at, count, letter in told:
                self.assertTrue(count > 0 and has(row, count) and 0 <= letter < 8)
                self.told(count, len(mix[at:at + count]))
                self.told(1, len(set(mix[at:at + count])))
                mix[at:at + count] = [letter] * count
            self.told(other, tuple(mix))
        return told

    def test_against_all_exchanges(self):
        for row in ROWS:
            for bodies, length in ((1, 3), (2, 5), (3, 3)):
                lots = plain_lots(mixes_of(bodies, length), ways_of(row, bodies, length))
                lot_of = {mix: at for at, lot in enumerate(lots) for mix in lot}
                for one, other in product(lot_of, lot_of):
                    told = self.check(row, one, other)
                    self.assertIs(lot_of[one] == lot_of[other], told is not None)

    def test_40_letters(self):
        numbers = some(75)
        found = 0
        for _ in range(300):
            row = random_row(numbers, numbers.choice((1, 1, 2, 3)), 4, 2)
            bodies = numbers.choice((2, 3, 8))
            one = other = tuple(numbers.choice((0, 0, 0, numbers.randrange(bodies))) for _ in range(40))
            for _ in range(60):
                counts = [count for count in plain_members(row, 40) if count]
                at, count = numbers.randrange(40), numbers.choice(counts or [1])
                if counts and at + count <= 40 and len(set(other[at:at + count])) == 1:
                    other = other[:at] + (numbers.randrange(8),) * count + other[at + count:]
            found += one != other
            self.assertIsNotNone(self.check(row, one, other))
            self.check(row, one, tuple(numbers.sample(other, 40)))
        self.assertGreater(found, 100)
        self.check(((), 1), tuple(at % 8 for at in range(40)), tuple(at // 5 for at in range(40)))
        self.check(((), 40), (1,) * 40, (7,) * 40)
        self.check((((13, 1), (8, 1), (5, 1), (3, 1), (2, 1)), 1), (0,) * 13 + (1,) * 27, (2,) * 32 + (1,) * 8)

    def test_equal_mixes(self):
        for row in ROWS:
            for mix in ((), (0,), (1, 1, 2, 2, 2, 3), (5,) * 40):
                self.assertIsNotNone(self.check(row, mix, mix))
                self.assertIs(True, is_exchanges(row, mix, mix, ()))

    def test_unlike_lengths(self):
        for row in ROWS:
            self.told((None, None), (exchanges(row, (0,) * 6, (0,) * 5), exchanges(row, (), (0,))))

    def test_great_numbers(self):
        for row in (steep_row(76, 300), ((), LONG), (((LONG, LONG),), 1), ((), 0)):
            self.told(None, exchanges(row, (0,) * 40, (1,) * 40))
            self.assertIsNotNone(self.check(row, (0, 1) * 20, (0, 1) * 20))
        self.check((((4, LONG),), 1), (0,) * 8 + (1,) * 32, (3,) * 40)

    def test_refusals(self):
        for call, more in ((exchanges, ()), (is_exchanges, ((),))):
            self.refused(InvalidQuestion, 0, call, None, None, None, *more)
            self.refused(InvalidQuestion, 1, call, ((), 2), None, None, *more)
            for value in NO_FALLINGS:
                self.refused(InvalidQuestion, 0, call, value, (0,), (0,), *more)
            for value in NO_MIXES:
                self.refused(InvalidQuestion, 1, call, ((), 2), value, (0,), *more)
                self.refused(InvalidQuestion, 2, call, ((), 2), (0,), value, *more)
        self.refused(InvalidQuestion, 2, exchanges, other=(8,), one=(7,), falling=((), 2))
        self.refused(InvalidQuestion, 2, is_exchanges, value=None, other=[0], one=(7,), falling=((), 2))


class AreExchanges(Case):
    ROW = (((4, 1),), 2)

    def test_some(self):
        one, other = (0, 0, 0, 0, 1, 2), (3, 3, 3, 3, 1, 2)
        for value in (((0, 4, 3),), ((0, 4, 7), (0, 4, 3)), ((0, 4, 0), (0, 4, 3)), ((0, 4, 1), (1, 4, 3), (1, 4, 1), (0, 4, 3))):
            self.assertIs(True, is_exchanges(self.ROW, one, other, value), value)
        self.assertIs(True, is_exchanges(value=(), other=one, one=one, falling=self.ROW))
        self.assertIs(True, is_exchanges(self.ROW, (5,) * 6, (1,) * 6, ((0, 6, 1),)))

    def test_others(self):
        one, other = (0, 0, 0, 0, 1, 2), (3, 3, 3, 3, 1, 2)
        for value in (None, 7, "abc", (), [], [(0, 4, 3)], ([0, 4, 3],), ((0, 4, 3), ()), ((0, 4),), ((0, 4, 3, 0),),
                      (0, 4, 3), ((0, 4, 8),),
                      ((0, 4, 8), (0, 4, 3)), ((0, 4, -1),), ((0, 4, True),), ((False, 4, 3),), ((0, 4.0, 3),),
                      ((0, 4, "3"),), ((0, 4, None),), ((None, 4, 3),), ((0, None, 3),), ((6, 4, 3),), ((3, 4, 3),),
                      ((-6, 4, 3),), ((LONG, 4, 3),), ((0, LONG, 3),), ((0, 4, LONG),), ((0, 0, 3),),
                      ((0, 4, 3), (0, 0, 3)), ((0, 4, 3), (6, 0, 3)), ((0, 2, 3), (2, 2, 3)), ((0, 1, 3),) * 4,
                      ((0, 4, 2),), ((0, 4, 3), (1, 4, 3)), ((0, 6, 3),), ((0, 4, 3), None), ((0, 4, 3), (2, 4, 3)),
                      {0: (0, 4, 3)}, (((0, 4, 3),),)):
            self.assertIs(False, is_exchanges(self.ROW, one, other, value), value)

    def test_counts_in_the_set(self):
        for count in range(1, 9):
            wanted = has(self.ROW, count)
            self.assertIs(wanted, is_exchanges(self.ROW, (0,) * 8, (1,) * count + (0,) * (8 - count), ((0, count, 1),)))

    def test_the_end_of_a_mix(self):
        self.assertIs(True, is_exchanges(((), 2), (0, 1, 1), (0, 0, 0), ((1, 2, 0),)))
        self.assertIs(False, is_exchanges(((), 2), (0, 1, 1), (0, 1, 0), ((2, 2, 0),)))
        self.assertIs(False, is_exchanges(((), 2), (0, 1, 1), (0, 1, 1, 0, 0), ((3, 2, 0),)))
        # No letters may stand behind the last one.
        self.assertIs(False, is_exchanges(((), 2), (0, 1), (0, 1, 1), ((1, 2, 1),)))
        self.assertIs(False, is_exchanges(((), 2), (0, 1), (0, 0, 0), ((1, 2, 0),)))

    def test_unlike_lengths(self):
        self.assertIs(False, is_exchanges(((), 1), (0, 0), (0, 0, 0), ((0, 1, 0),)))
        self.assertIs(False, is_exchanges(((), 1), (), (0,), ()))
        self.assertIs(False, is_exchanges(((), 1), (), (0,), ((0, 1, 0),)))
