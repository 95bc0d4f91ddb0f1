"""[50]: accords of bodies, and what follows from them."""

from itertools import product

from bodyforbody.accords import accord_exchanges, alike_mixes, handed_on, is_accord_exchanges
from bodyforbody.closing import closing
from bodyforbody.errors import InvalidQuestion
from bodyforbody.falling import has
from tests.helpers import LONG, NO_SEQUENCES, Case, exchanged, mixes_of, plain_closing, some

ROUND = ((0, 1, 5), (0, 2, 3), (1, 2, 4), (1, 2, 7))
# For two bodies.
NO_ACCORDS = NO_SEQUENCES + ((None,), [(0, 1)], ((0, 1, 2, 3),), ([0, 1, 2],), [[0, 1, 2]], ((0, 2, 1),), ((2, 0, 1),),
                             ((0, 1, 61),), ((0, 1, LONG),), ((0, 1, -1),), ((-1, 1, 1),), ((0, True, 1),), [(False, 1, 1)],
                             ((0, 1, True),), ((0, 1, 1.0),), ((0, 1, None),), ((0, "1", 1),), (0, 1, 2), ((0, 1, 2), 5),
                             ((0, 1, 2), (0, 1, False)), ((0, 1, 2),) * 21, [(1, 1, 0)] * 21, ((0, 1, (2,)),))
NO_SHORT_MIXES = (None, 5, "01", [], [0, 1], {0: 1}, {0}, range(2), b"\x00", (2,), (0, 2), (-1,), (True,), (0, False),
                  (0.0,), ("0",), (None,), ((0,),), (0,) * 9, (0, 10 ** 30))


def both_ways(accords):
    return [way for one, other, count in accords for way in ((one, other, count), (other, one, count))]


def plain_alike(accords, mix):
    """All mixes that exchanges of told blocks lead to."""
    found, todo = {mix}, [mix]
    while todo:
        new = [other for other in exchanged(todo.pop(), both_ways(accords)) if other not in found]
        found.update(new)
        todo.extend(new)
    return tuple(sorted(found))


def plain_handed(accords, bound):
    """For each two of three bodies the counts up to a bound that are told, follow, or are handed on, one by one."""
    sets = {pair: {0} | {n for one, other, n in accords if {one, other} == set(pair)} for pair in ((0, 1), (0, 2), (1, 2))}
    while True:
        before = {pair: sorted(found) for pair, found in sets.items()}
        sets[(0, 1)] |= sets[(0, 2)] & sets[(1, 2)]
        sets[(0, 2)] |= sets[(0, 1)] & sets[(1, 2)]
        sets[(1, 2)] |= sets[(0, 1)] & sets[(0, 2)]
        sets = {pair: set(plain_closing(sorted(found), bound)) for pair, found in sets.items()}
        if before == {pair: sorted(found) for pair, found in sets.items()}:
            return before


def some_accords(numbers, bodies, most, many=5):
    told = [(numbers.randrange(bodies), numbers.randrange(bodies), numbers.randrange(most + 1))
            for _ in range(numbers.randrange(many + 1))]
    return told if numbers.randrange(2) else tuple(told)


class HandedOn(Case):
    def test_against_all_counts(self):
        numbers = some(101)
        for _ in range(150):
            accords = some_accords(numbers, 3, 9)
            told = handed_on(3, accords)
            wanted = plain_handed(accords, 30)
            self.told([(0, 1), (0, 2), (1, 2)], [pair[:2] for pair in told])
            for one, other, row in told:
                self.told(wanted[(one, other)], [n for n in range(31) if has(row, n)])

    def test_one_and_two_bodies(self):
        self.told(((), ()), (handed_on(1, ()), handed_on(1, [(0, 0, 60)] * 20)))
        self.told(((0, 1, ((), 0)),), handed_on(2, []))
        self.told(((0, 1, closing((5, 8))),), handed_on(accords=((1, 0, 5), (0, 1, 8), (0, 0, 3)), bodies=2))
        self.told(((0, 1, ((), 0)),), handed_on(2, ((0, 0, 3), (1, 1, 7), (0, 1, 0))))

    def test_three_bodies(self):
        self.told(((0, 1, ((), 0)), (0, 2, ((), 0)), (1, 2, ((), 0))), handed_on(3, ()))
        self.told(((0, 1, ((), 60)), (0, 2, ((), 60)), (1, 2, ((), 60))), handed_on(3, ((0, 1, 60), (2, 1, 60))))
        for order in product((0, 1), repeat=2):
            told = [accord if kept else (accord[1], accord[0], accord[2])
                    for accord, kept in zip(((0, 1, 4), (1, 2, 6)), order)]
            self.told(((0, 1, ((), 4)), (0, 2, ((), 12)), (1, 2, ((), 6))), handed_on(3, told))
            self.told(handed_on(3, told), handed_on(3, told * 2))

    def test_they_lead_round(self):
        told = handed_on(3, ROUND)
        self.assertIs(False, has(told[0][2], 8))
        self.assertIn((1,) * 8, alike_mixes(3, ROUND, (0,) * 8))

    def test_what_is_handed_on_is_surely_so(self):
        numbers = some(102)
        for _ in range(40):
            accords = some_accords(numbers, 3, 5)
            for one, other, row in handed_on(3, accords):
                for count in range(1, 8):
                    if has(row, count):
                        self.assertIn((other,) * count, alike_mixes(3, accords, (one,) * count))

    def test_where_none_lead_round(self):
        # Then they agree at no others.
        numbers = some(103)
        for _ in range(40):
            pairs = numbers.sample([(0, 1), (0, 2), (1, 2)], 2)
            accords = [pair + (numbers.randint(1, 6),) for pair in pairs for _ in range(numbers.randrange(3))]
            for one, other, row in handed_on(3, accords):
                for count in range(1, 9):
                    self.assertIs(has(row, count), (other,) * count in alike_mixes(3, accords, (one,) * count))

    def test_20_of_60(self):
        numbers = some(104)
        for _ in range(20):
            accords = [(numbers.randrange(3), numbers.randrange(3), numbers.randint(30, 60)) for _ in range(20)]
            told = handed_on(3, accords)
            rows = {pair[:2]: pair[2] for pair in told}
            for one, other, count in accords:
                if one != other:
                    self.assertIs(True, has(rows[(min(one, other), max(one, other))], count))

    def test_refusals(self):
        for value in NO_ACCORDS:
            self.refused(InvalidQuestion, 1, handed_on, 2, value)
        self.refused(InvalidQuestion, 1, handed_on, accords=[(0, 1, 3)], bodies=1)


class AlikeMixes(Case):
    def test_against_all_exchanges(self):
        numbers = some(105)
        for _ in range(120):
            bodies = numbers.randint(1, 3)
            accords = some_accords(numbers, bodies, 6)
            mix = tuple(numbers.randrange(bodies) for _ in range(numbers.randrange(8)))
            self.told(plain_alike(accords, mix), alike_mixes(bodies, accords, mix))

    def test_the_edges(self):
        self.told((((),), ((0, 1),)), (alike_mixes(2, (), ()), alike_mixes(2, (), (0, 1))))
        self.told(((0,) * 8,), alike_mixes(2, [(0, 1, 9), (0, 1, 0), (0, 0, 2)], (0,) * 8))
        self.told(tuple(mixes_of(3, 8)), alike_mixes(3, ((1, 0, 1), (1, 2, 1)), (0,) * 8))
        self.told(((0,) * 8, (1,) * 8), alike_mixes(mix=(0,) * 8, accords=[(1, 0, 8)] * 20, bodies=2))

    def test_refusals(self):
        self.refused(InvalidQuestion, 1, alike_mixes, 2, None, None)
        for value in NO_ACCORDS:
            self.refused(InvalidQuestion, 1, alike_mixes, 2, value, (0,))
        for value in NO_SHORT_MIXES:
            self.refused(InvalidQuestion, 2, alike_mixes, 2, (), value)


class AccordExchanges(Case):
    def check(self, bodies, accords, one, other):
        told = accord_exchanges(bodies, accords, one, other)
        self.assertIs(other in plain_alike(accords, one), told is not None)
        if told is not None:
            self.assertIs(True, is_accord_exchanges(bodies, accords, one, other, told))
            mix = one
            for at, count, letter in told:
                self.assertTrue(count > 0 and mix[at:at + count] == (mix[at],) * count)
                self.assertIn((mix[at], letter, count), both_ways(accords))
                mix = mix[:at] + (letter,) * count + mix[at + count:]
            self.told(other, mix)
        return told

    def test_against_all_exchanges(self):
        numbers = some(106)
        for _ in range(60):
            bodies = numbers.randint(1, 3)
            accords = some_accords(numbers, bodies, 5)
            one = tuple(numbers.choice((0, 0, numbers.randrange(bodies))) for _ in range(numbers.randrange(9)))
            self.check(bodies, accords, one, one)
            self.check(bodies, accords, one, (0,) * len(one))
            self.check(bodies, accords, one, (bodies - 1,) * len(one))
            self.check(bodies, accords, one, tuple(numbers.choice(one) for _ in one))

    def test_those_that_lead_round(self):
        self.told(None, self.check(3, ROUND, (0,) * 7, (1,) * 7))
        self.assertIsNotNone(self.check(3, ROUND, (0,) * 8, (1,) * 8))
        self.assertIsNotNone(self.check(3, ROUND, (1,) * 8, (0,) * 8))

    def test_the_plain_ones(self):
        for accords in ((), [(0, 1, 2)]):
            self.assertIsNotNone(accord_exchanges(2, accords, (), ()))
            self.assertIsNotNone(self.check(2, accords, (0, 1) * 4, (0, 1) * 4))
            self.told(None, accord_exchanges(2, accords, (0, 1), (1, 0)))
            self.told((None, None), (accord_exchanges(2, accords, (0,), (0, 0)), accord_exchanges(2, accords, (0,), ())))
        self.told(((0, 2, 1),), accord_exchanges(other=(1, 1), one=(0, 0), accords=[(1, 0, 2)], bodies=2))

    def test_refusals(self):
        for call, more in ((accord_exchanges, ()), (is_accord_exchanges, ((),))):
            self.refused(InvalidQuestion, 1, call, 2, None, None, None, *more)
            self.refused(InvalidQuestion, 2, call, 2, (), None, None, *more)
            for value in NO_ACCORDS:
                self.refused(InvalidQuestion, 1, call, 2, value, (0,), (0,), *more)
            for value in NO_SHORT_MIXES:
                self.refused(InvalidQuestion, 2, call, 2, (), value, (0,), *more)
                self.refused(InvalidQuestion, 3, call, 2, (), (0,), value, *more)
        self.refused(InvalidQuestion, 3, is_accord_exchanges, value=5, other=(2,), one=(1,), accords=[], bodies=2)


class AreAccordExchanges(Case):
    def test_some(self):
        self.assertIs(True, is_accord_exchanges(2, [], (0, 1), (0, 1), ()))
        self.assertIs(True, is_accord_exchanges(2, [(0, 1, 2)], (1, 0, 0), (1, 1, 1), ((1, 2, 1),)))
        self.assertIs(True, is_accord_exchanges(2, [(1, 0, 2)], (1, 0, 0), (0, 0, 1), ((1, 2, 1), (0, 2, 0))))
        self.assertIs(True, is_accord_exchanges(value=((0, 8, 1), (0, 8, 0)), other=(0,) * 8, one=(0,) * 8,
                                                accords=((1, 0, 8),), bodies=2))

    def test_letters_that_stay(self):
        # Such an exchange wants an accord of the body with itself.
        self.assertIs(True, is_accord_exchanges(2, [(0, 0, 2)], (0, 0), (0, 0), ((0, 2, 0),)))
        self.assertIs(False, is_accord_exchanges(2, [(0, 0, 1), (1, 1, 2)], (0, 0), (0, 0), ((0, 2, 0),)))
        self.assertIs(False, is_accord_exchanges(2, [(0, 1, 2)], (0, 0), (0, 0), ((0, 2, 0),)))

    def test_counts_without_an_accord(self):
        told = [(0, 1, 3), (1, 0, 5), (0, 1, 0)]
        for count in range(1, 9):
            other = (1,) * count + (0,) * (8 - count)
            self.assertIs(count in (3, 5), is_accord_exchanges(2, told, (0,) * 8, other, ((0, count, 1),)))
        # 6 is in the closing, but it is not told.
        self.assertIs(False, is_accord_exchanges(2, told, (0,) * 6, (1,) * 6, ((0, 6, 1),)))
        self.assertIs(True, is_accord_exchanges(2, told, (0,) * 6, (1,) * 6, ((0, 3, 1), (3, 3, 1))))
        self.assertIs(False, is_accord_exchanges(3, ((0, 1, 2), (1, 2, 2)), (0, 0), (2, 2), ((0, 2, 2),)))
        self.assertIs(True, is_accord_exchanges(3, ((0, 1, 2), (1, 2, 2)), (0, 0), (2, 2), ((0, 2, 1), (0, 2, 2))))

    def test_others(self):
        one, other, told = (1, 0, 0), (1, 1, 1), [(0, 1, 2), (0, 1, 0), (0, 1, 7)]
        for value in (None, 5, "abc", (), [], [(1, 2, 1)], ([1, 2, 1],), (1, 2, 1), ((1, 2),), ((1, 2, 1, 0),), ((1, 2, 2),),
                      ((True, 2, 1),), ((1, 2, True),), ((1, 2.0, 1),), ((1, "2", 1),), ((1, 2, None),), ((0, 2, 1),),
                      ((2, 2, 1),), ((3, 2, 1),), ((-2, 2, 1),), ((1, 0, 1),), ((1, 7, 1),), ((1, 1, 1), (2, 1, 1)),
                      ((1, 2, 1), (0, 0, 1)), ((1, 2, 1), (3, 0, 1)), ((1, 2, 1), None), ((1, 2, 1), (0, 2, 0)),
                      ((LONG, 2, 1),), ((1, LONG, 1),), ((1, 2, LONG),), {1: 2}, (((1, 2, 1),),)):
            self.assertIs(False, is_accord_exchanges(2, told, one, other, value), value)
        self.assertIs(False, is_accord_exchanges(2, told, (0,), (0, 0), ()))
        self.assertIs(False, is_accord_exchanges(2, told, (1, 0), (1, 1, 1), ((1, 2, 1),)))
        self.assertIs(False, is_accord_exchanges(2, told, (0, 0), (1,), ((0, 2, 1),)))
