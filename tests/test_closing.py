"""[12] to [14]: closings, derivations, tellers."""

from itertools import combinations

from bodyforbody.closing import closing, derivation, is_derivation, tellers
from bodyforbody.errors import InvalidQuestion
from bodyforbody.falling import has, is_falling
from tests.helpers import LONG, NO_COUNTS, NO_FALLINGS, Case, plain_closing, plain_members, rows_of_sum, some

LOTS = [lot for size in range(4) for lot in combinations(range(1, 13), size)]


def long_lots(seed, many):
    """Lots of 40 counts of 30 digits, also near to each other, and pairs with long falling rows."""
    numbers = some(seed)
    for at in range(many):
        if at % 3 == 0:
            yield tuple(numbers.randrange(10 ** 29, 10 ** 30) for _ in range(40))
        elif at % 3 == 1:
            base = numbers.randrange(10 ** 29, 10 ** 30 - 10 ** 9)
            yield tuple(base + numbers.randrange(10 ** numbers.randint(1, 8)) for _ in range(40))
        else:
            step = 10 ** numbers.randint(0, 9)
            yield tuple(numbers.randrange(10 ** numbers.randint(5, 20)) * step for _ in range(numbers.randint(1, 9)))
    one, other = 1, 2
    while other < 10 ** 29:
        one, other = other, one + other
    yield one, other
    yield 10 ** 29, 10 ** 29 + 1
    yield 1, LONG
    yield 2, LONG


class Closings(Case):
    def test_against_plain_closings(self):
        for lot in LOTS:
            row = closing(lot)
            self.assertIs(True, is_falling(row), row)
            self.told(plain_closing(lot, 26), plain_members(row, 26))

    def test_zeros_equal_counts_and_order(self):
        self.told(((), 0), closing(()))
        self.told(((), 0), closing([0, 0]))
        self.told(((), 7), closing([7]))
        self.told(((), 7), closing([0, 7, 7, 0]))
        self.told(((), LONG), closing((LONG,)))
        self.told((((12, 1),), 6), closing([18, 0, 12, 18]))
        self.told(((), 1), closing((5, 8, 1)))
        self.told((((5, 3),), 1), closing((5, 10, 16)))
        self.told((((5, 3), (2, 2)), 1), closing(counts=[17, 5, 10]))

    def test_what_is_told_is_kept(self):
        counts = [8, 5]
        row = closing(counts)
        counts.append(1)
        self.told(((((5, 1), (3, 1), (2, 1)), 1), [8, 5, 1]), (row, counts))

    def test_40_counts_of_30_digits(self):
        for lot in long_lots(8, 9):
            row = closing(lot)
            self.assertIs(True, is_falling(row))
            self.assertTrue(all(has(row, count) for count in lot))
            self.assertTrue(set(tellers(row)) <= set(lot))
            self.told(row, closing(tellers(row)))

    def test_no_counts(self):
        for value in NO_COUNTS:
            self.refused(InvalidQuestion, 0, closing, value)
            self.refused(InvalidQuestion, 0, derivation, value, 0)
            self.refused(InvalidQuestion, 0, is_derivation, value, 0, ())


def plain_is_derivation(counts, count, value):
    """As the document says it, for tuples of triples of numbers."""
    known = {0, *counts}
    made = None
    for x, y, z in value:
        if not {x, y, z} <= known or z > x or z > y:
            return False
        made = x + y - z
        known.add(made)
    return made == count if value else count in known


class Derivations(Case):
    def test_of_each_number_of_a_closing(self):
        for lot in LOTS:
            row = closing(lot)
            for count in range(30):
                value = derivation(list(lot), count)
                if not has(row, count):
                    self.assertIsNone(value)
                    continue
                self.assertTrue(plain_is_derivation(lot, count, value), (lot, count, value))
                self.assertIs(True, is_derivation(list(lot), count, value))

    def test_nothing_to_derive(self):
        for counts in ((), (0,), [4, 5], (0, 4, 4, 5)):
            self.assertIs(True, is_derivation(counts, 0, ()))
            self.assertTrue(plain_is_derivation(counts, 0, derivation(counts, 0)))
        self.assertIs(True, is_derivation((4, 5), 5, ()))
        self.assertIs(False, is_derivation((4, 5), 6, ()))
        self.assertIs(False, is_derivation((), 1, ()))
        self.assertIsNone(derivation((), 1))
        self.assertIsNone(derivation([0], 1))

    def test_what_is_none(self):
        self.assertIs(True, is_derivation((4, 5), 7, ((5, 5, 4), (6, 5, 4))))
        self.assertIs(True, is_derivation((4, 5), 5, ((4, 4, 0), (5, 0, 0))))
        for value in (None, 7, [], [(5, 5, 4), (6, 5, 4)], ([5, 5, 4], (6, 5, 4)), ((5, 5, 4),), ((6, 5, 4), (5, 5, 4)),
                      ((5, 5, 4), (6, 5, 4, 0)), ((5, 5, 4), (6, 5)), ((5, 5, 4), (6, 5, 4), (4, 4, 0)), "ab", (7,),
                      ((5, 5, 4), (5, 6, 4), (7, 0, True)), ((5, 5, 4), (6, 5.0, 4)), ((5, 5, 4), (6, 5, 5)),
                      ((5, 5, 4), (7, 4, 4)), ((4, 3, 0),), ((4, 5, 5), (4, 4, 0), (8, 4, 5)), ((5, 5, 4), None),
                      ((5, 5, 4), (5, 5, 3)), ((5, 5, 4), (6, 5, -1)), ((0, 7, 0),), {1: 2}):
            self.assertIs(False, is_derivation((4, 5), 7, value), value)

    def test_a_bool_is_no_number_of_a_triple(self):
        self.assertIs(True, is_derivation((1,), 2, ((1, 1, 0),)))
        for value in (((True, 1, 0),), ((1, True, 0),), ((1, 1, False),)):
            self.assertIs(False, is_derivation((1,), 2, value))

    def test_z_is_greater_than_neither(self):
        self.assertIs(False, is_derivation((4, 5, 8), 7, ((8, 4, 5),)))
        self.assertIs(False, is_derivation((4, 5, 8), 7, ((4, 8, 5),)))
        self.assertIs(True, is_derivation((4, 5, 8), 4, ((4, 4, 4),)))

    def test_long_counts(self):
        numbers = some(9)
        for lot in long_lots(10, 9):
            row = closing(lot)
            last = sum(step * times for step, times in row[0])
            counts = [max(lot), last, last + row[1], last + row[1] * numbers.randrange(10 ** 9), row[1] * LONG]
            base = 0
            for step, times in row[0]:
                counts.append(base + step * numbers.randint(1, times))
                base += step * times
            for count in counts:
                value = derivation(lot, count)
                if not has(row, count):
                    self.assertIsNone(value)
                    continue
                self.assertLessEqual(len(value), 30000)
                self.assertTrue(plain_is_derivation(lot, count, value))
                self.assertIs(True, is_derivation(lot, count, value))

    def test_by_name(self):
        self.told((), derivation(count=5, counts=[5]))
        self.assertIs(True, is_derivation(value=((5, 5, 0),), count=10, counts=[5]))

    def test_counts_are_not_changed(self):
        counts = [8, 5, 0, 5]
        derivation(counts, 11)
        is_derivation(counts, 11, ())
        self.told([8, 5, 0, 5], counts)


class Tellers(Case):
    def test_against_leaving_out(self):
        for row in [((), 3)] + [row for total in range(2, 13) for row in rows_of_sum(total)] + rows_of_sum(12, 2):
            last = sum(step * times for step, times in row[0])
            bound = 2 * last + 4 * row[1]
            members = plain_members(row, bound)
            wanted = []
            for member in members[1:]:
                less = [n for n in members if n != member]
                if member <= last + row[1] and plain_closing(less, bound) == less:
                    wanted.append(member)
            self.told(tuple(wanted), tellers(row))
            self.told(row, closing(tellers(row)))

    def test_none_can_be_left_out(self):
        for lot in LOTS:
            told = tellers(closing(lot))
            self.assertTrue(set(told) <= set(lot))
            self.told(closing(lot), closing(told))
            for at in range(len(told)):
                self.assertNotEqual(closing(lot), closing(told[:at] + told[at + 1:]))

    def test_the_plain_rows(self):
        self.told((), tellers(((), 0)))
        self.told((LONG,), tellers(falling=((), LONG)))
        self.told((5, 8), tellers((((5, 1), (3, 1), (2, 1)), 1)))

    def test_no_falling_row(self):
        for value in NO_FALLINGS:
            self.refused(InvalidQuestion, 0, tellers, value)
