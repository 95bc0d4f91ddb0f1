"""[38]: rounds, sets of numbers that repeat from some number on."""

from itertools import combinations

from bodyforbody.errors import InvalidQuestion, Refused
from bodyforbody.falling import is_falling
from bodyforbody.rounds import breach, round_falling, round_has, tidy
from tests.helpers import LONG, NO_ROUNDS, Case, low_rows, plain_members, some

SMALL = [(start, total - start, counts) for total in range(1, 8) for start in range(total)
         for size in range(total + 1) for counts in combinations(range(total), size)]


def plain_numbers(value, bound):
    """The numbers of the set below the bound, each put back by the ring again and again."""
    start, ring, counts = value
    found = []
    for number in range(bound):
        place = number
        while place >= start + ring:
            place -= ring
        if place in counts:
            found.append(number)
    return found


def is_round_of(start, ring, numbers, bound):
    """Whether the set, known below the bound, repeats so."""
    return all((n in numbers) == (n + ring in numbers) for n in range(start, bound - ring))


def big_rounds(seed, many):
    numbers = some(seed)
    for at in range(many):
        total = numbers.choice((2000, 1999, 720, 30))
        ring = numbers.choice((1, total, 2, numbers.randint(1, total)))
        pattern = numbers.choice((2, 3, 7, 10))
        yield total - ring, ring, tuple(n for n in range(total) if n % pattern == 0 or numbers.random() < (at % 3) / 50)


class Has(Case):
    def test_against_plain_numbers(self):
        for value in SMALL[::3]:
            wanted = plain_numbers(value, 25)
            self.told(wanted, [n for n in range(25) if round_has(value, n)])

    def test_long_numbers(self):
        self.assertIs(True, round_has((3, 2, (0, 4)), 10 ** 20))
        self.assertIs(False, round_has((3, 2, (0, 4)), 10 ** 20 + 1))
        self.assertIs(True, round_has(count=LONG, value=(1000, 1000, (0, 1999))))
        self.assertIs(False, round_has((1000, 1000, (0, 1998)), LONG))
        self.assertIs(False, round_has((1000, 1000, ()), LONG))
        self.assertIs(True, round_has((0, 7, (LONG % 7,)), LONG))

    def test_no_rounds(self):
        for value in NO_ROUNDS:
            self.refused(InvalidQuestion, 0, round_has, value, 0)
            for call in (tidy, breach, round_falling):
                self.refused(InvalidQuestion, 0, call, value)


class Tidy(Case):
    def test_against_all_lesser_ones(self):
        for value in SMALL:
            bound = 40
            numbers = set(plain_numbers(value, bound))
            ring = next(ring for ring in range(1, 8) if is_round_of(value[0], ring, numbers, bound))
            start = next(start for start in range(8) if is_round_of(start, ring, numbers, bound))
            self.told((start, ring, tuple(n for n in range(start + ring) if n in numbers)), tidy(value))

    def test_the_same_set_by_others(self):
        numbers = some(70)
        for value in SMALL[::40]:
            told = tidy(value)
            for _ in range(3):
                start, ring = value[0] + numbers.randrange(30), value[1] * numbers.randint(1, 5)
                self.told(told, tidy((start, ring, tuple(plain_numbers(value, start + ring)))))
            self.told(told, tidy(told))

    def test_2000(self):
        for value in big_rounds(71, 30):
            start, ring, counts = told = tidy(value)
            self.assertTrue(ring <= value[1] and start + ring <= value[0] + value[1])
            self.told(plain_numbers(value, 2100), plain_numbers(told, 2100))
            self.told(counts, tuple(plain_numbers(value, start + ring)))
            self.told(told, tidy(told))
        self.told((0, 1, ()), tidy((1999, 1, ())))
        self.told((0, 1, (0,)), tidy((0, 2000, tuple(range(2000)))))
        self.told((1, 1, (0,)), tidy((500, 1500, (0,))))
        self.told((0, 2000, (0,)), tidy(value=(0, 2000, (0,))))
        self.told((1999, 1, (1998,)), tidy((1999, 1, (1998,))))
        self.told((2, 3, (1, 2)), tidy((8, 9, (1, 2, 5, 8, 11, 14))))


class Breaches(Case):
    def check(self, value):
        pair = breach(value)
        if pair is not None:
            low, high = pair
            self.assertTrue(isinstance(pair, tuple) and low < high)
            self.told([True, True, False], [round_has(value, n) for n in (low, high, 2 * high - low)])
        return pair

    def test_against_plain_numbers(self):
        for value in SMALL:
            if 0 not in value[2]:
                self.refused(Refused, 0, breach, value)
                continue
            numbers = plain_numbers(value, 90)
            there = any(2 * high - low not in numbers for low in numbers for high in numbers if low < high <= 40)
            self.assertIs(there, self.check(value) is not None)

    def test_2000(self):
        for value in big_rounds(72, 30):
            if 0 in value[2]:
                self.assertIs(round_falling(value) is None, self.check(value) is not None)
        self.told(None, breach((0, 2000, (0,))))
        self.assertIsNotNone(self.check((0, 2000, (0, 1999))))
        self.told(None, breach((1999, 1, (0, 1999))))
        self.assertIsNotNone(self.check((1999, 1, (0, 1998))))
        self.assertIsNotNone(self.check((1000, 1000, (0, 1000, 1001))))

    def test_the_only_breach_is_behind_start_and_ring(self):
        value = (10, 12, (0, 12, 18, 21))
        self.told((21, 24), self.check(value))
        self.told(None, round_falling(value))

    def test_zero_is_not_there(self):
        for value in ((0, 1, ()), (5, 3, ()), (0, 4, (2,)), (1999, 1, (1, 1999))):
            self.refused(Refused, 0, breach, value)
            self.told(None, round_falling(value))


class Fallings(Case):
    def test_against_all_low_rows(self):
        known = {tuple(plain_members(row, 60)): row for end in range(1, 8) for row in low_rows(20, end)}
        known[(0,)] = ((), 0)
        closed = 0
        for value in SMALL:
            row = round_falling(value)
            self.told(known.get(tuple(plain_numbers(value, 61))), row)
            closed += row is not None
        self.assertGreater(closed, 30)

    def test_rows_and_back(self):
        for row in low_rows(14, 1) + low_rows(20, 2) + [((), 7)]:
            last = sum(step * times for step, times in row[0])
            for start, ring in ((last, row[1]), (last + 5, 3 * row[1]), (2000 - 6 * row[1], 6 * row[1])):
                value = (start, ring, tuple(plain_members(row, start + ring - 1)))
                self.told((row, None), (round_falling(value=value), breach(value=value)))
        for start, ring in ((1, 1), (1999, 1), (1, 1999), (700, 1000)):
            self.told(((), 0), round_falling((start, ring, (0,))))

    def test_the_plain_ones(self):
        self.told((((4, 1),), 2), round_falling((4, 2, (0, 4))))
        self.told(None, round_falling((2, 1, (0, 1))))
        row = round_falling((1998, 2, (0, 1998)))
        self.assertIs(True, is_falling(row))
        self.told((((1998, 1),), 2), row)
