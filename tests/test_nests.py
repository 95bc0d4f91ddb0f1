"""[40], [42] and the fewest tests of [43]: loops in loops."""

from math import comb

from bodyforbody.built import set_machine
from bodyforbody.changes import same_loops
from bodyforbody.closing import closing, tellers
from bodyforbody.court import agreeing, reach
from bodyforbody.errors import InvalidQuestion, InvalidRow
from bodyforbody.falling import has, is_falling
from bodyforbody.nests import (body_times, degrees, nest_agrees, nest_closing, nest_fault, nest_tests, sure_from)
from tests.helpers import (LONG, NO_KNOWNS, NO_NESTS, SHIFT, Case, low_rows, machines, plain_row, plain_times,
                           rings_machine, some, some_nest)

SQUARE, STAIRS = (("n", (("n", (0,)),)),), (("n", (("i", (0,)),)),)
LOOP, TWO = (("n", (0,)),), (("n", (("m", (0,)),)),)
FIVE = (("n", (("i", (("i", (("i", (("i", (0,)),)),)),)),)),)
NINE = 10 ** 9 - 1
ROUND_AND_ONE = (0, ("n", (0,)), 0)
MORE_WITH_M = (("n", (0,)), ("m", (("m", (0, 0, 0)),)))


def plain_degrees(nest):
    """From differences of differences at 0: the polynomial is their sum, each times two binomials."""
    table = [[body_times(nest, n, m) for m in range(8)] for n in range(8)]
    found = [(0, 0)]
    for a in range(8):
        for b in range(8):
            if sum((-1) ** (a - n + b - m) * comb(a, n) * comb(b, m) * table[n][m]
                   for n in range(a + 1) for m in range(b + 1)) != 0:
                found.append((a, b))
    return max(a for a, _ in found), max(b for _, b in found)


def counts_of(known, many):
    least, step, more = known
    return [least + step * at for at in range(many if more is None else min(many, more + 1))]


def some_known(numbers):
    return numbers.randrange(4), numbers.randint(1, 3), numbers.choice((None, None, 0, 1, 2, 4))


class Times(Case):
    def test_against_counting_round_by_round(self):
        numbers = some(61)
        for _ in range(400):
            nest = some_nest(numbers, 4)
            for n, m in ((0, 0), (1, 0), (0, 1), (2, 3), (3, 2), (4, 1)):
                self.told(plain_times(nest, n, m), body_times(nest, n, m))

    def test_the_plain_ones(self):
        self.told(0, body_times((), 5, 7))
        self.told((1, 3), (body_times((0,), LONG, LONG), body_times((0, 0, 0), 0, 0)))
        self.told((LONG, LONG ** 2), (body_times(LOOP, LONG, 0), body_times(SQUARE, LONG, 3)))
        self.told(LONG * (LONG - 2), body_times(n=LONG, m=LONG - 2, nest=TWO))
        self.told(0, body_times((("n", ()),), LONG, LONG))
        self.told(30, body_times((0,) * 30, 1, 2))
        self.told(2 + 7, body_times(ROUND_AND_ONE, 7, 0))

    def test_loops_of_ended_rounds(self):
        inner = (("i", (0,)),)
        for times, wanted in ((0, 0), (1, 0), (NINE, NINE * (NINE - 1) // 2), ("n", 11 * 10 // 2), ("m", 6 * 5 // 2)):
            self.told(wanted, body_times(((times, inner),), 11, 6))
        # i is that of the loop directly around: the inner ones end 0, 1, 2 rounds, then these again.
        self.told(sum(i * (i - 1) // 2 for i in range(7)), body_times((("n", (("i", inner),)),), 7, 0))
        self.told(7 * 3, body_times((("n", ((3, inner),)),), 7, 0))
        self.told(sum(i + i * 2 for i in range(5)), body_times((("n", (("i", (0,)), ("i", (0, 0)))),), 5, 0))

    def test_five_loops_and_30_digits(self):
        self.told(comb(LONG, 5), body_times(FIVE, LONG, 0))
        deep = ((NINE, (("n", (("m", ((NINE, (("n", (0,) * 25),)),)),)),)),)
        self.told(25 * NINE ** 2 * LONG ** 3, body_times(deep, LONG, LONG))
        # Somewhat beyond the limits.
        six = (0,)
        for _ in range(8):
            six = (("n", six + (0,)),)
        self.told(sum(2 ** at if at else 0 for at in range(8)) + 2 ** 9, body_times(six, 2, 0))
        self.told((8, 0), degrees(six))

    def test_an_argument_is_not_kept(self):
        self.told(body_times(STAIRS, 9, 0), body_times(tuple(list(STAIRS)), 9, 0))
        self.told((("n", (("i", (0,)),)),), STAIRS)

    def test_no_nests(self):
        for value in NO_NESTS:
            self.refused(InvalidQuestion, 0, body_times, value, 3, 4)
            self.refused(InvalidQuestion, 0, degrees, nest=value)


class Degrees(Case):
    def test_against_differences(self):
        numbers = some(62)
        for _ in range(300):
            nest = some_nest(numbers, 5)
            self.told(plain_degrees(nest), degrees(nest))

    def test_the_plain_ones(self):
        for wanted, nest in (((0, 0), ()), ((0, 0), (0, 0)), ((0, 0), (("n", ()),)), ((0, 0), (("n", (("m", ()),)),)),
                             ((1, 0), LOOP), ((1, 1), TWO), ((2, 0), SQUARE), ((2, 0), STAIRS), ((5, 0), FIVE),
                             ((0, 0), ((NINE, (0,)),)), ((0, 5), (("m", (("m", (("m", (("m", (("m", (0,)),)),)),)),)),)),
                             ((1, 2), MORE_WITH_M), ((3, 2), (("n", (("m", (("n", (("m", (("n", (0,)),)),)),)),)),)),
                             ((2, 1), (("m", (0,)), ("n", (("i", ()), ("i", (0,))))))):
            self.told(wanted, degrees(nest))

    def test_what_vanishes(self):
        # No round has ended in the only round of a loop, one at most in the second one.
        for wanted, nest in (((0, 0), ((0, (("n", (0,)),)),)), ((0, 0), ((1, (("i", (("n", (0,)),)),)),)),
                             ((1, 0), ((2, (("i", (("n", (0,)),)),)),)), ((0, 0), ((2, (("i", (("i", (0,)),)),)),)),
                             ((0, 0), ((3, (("i", (("i", (0,)),)),)),)), ((0, 1), ((3, (("i", (("i", (("m", (0,)),)),)),)),)),
                             ((1, 0), (("n", ((1, (("i", (0,)), 0)),)),))):
            self.told(wanted, degrees(nest))
            self.told(plain_degrees(nest), degrees(nest))


class Agrees(Case):
    def test_against_rows(self):
        numbers = some(63)
        for machine in machines(64, 60):
            nest = some_nest(numbers, 3)
            for n, m in ((0, 0), (1, 2), (3, 1), (2, 2)):
                times = plain_times(nest, n, m)
                if times < 200:
                    wanted = plain_row(machine, (0,), times) == plain_row(machine, (1, 0), times)
                    self.assertIs(wanted, nest_agrees(machine, (0,), [1, 0], nest, n, m))

    def test_30_digits(self):
        for n in (0, 1, 2, 3, NINE, LONG):
            self.assertIs(same_loops(SHIFT, (0,), (0, 0), n ** 2), nest_agrees(SHIFT, (0,), (0, 0), SQUARE, n, 0))
        ring = rings_machine((7,), (1,) * 7)
        self.assertIs((LONG * (LONG - 1) // 2) % 7 == 0, nest_agrees(ring, (0,), (1,), STAIRS, LONG, 5))
        self.assertIs(True, nest_agrees(ring, (0,), (1,), STAIRS, 7 * 10 ** 28, 5))
        self.assertIs(True, nest_agrees(machine=ring, one=(0,), other=(1,), nest=(), n=LONG, m=LONG))

    def test_refusals(self):
        self.refused(InvalidRow, 1, nest_agrees, SHIFT, (0, 2), (True,), 5, 1, 1)
        self.refused(InvalidRow, 0, nest_agrees, SHIFT, (0, 1), (True,), 5, 1, 1)
        for value in NO_NESTS:
            self.refused(InvalidQuestion, 3, nest_agrees, SHIFT, [0, 1], (1,), value, 1, 1)


class Faults(Case):
    def plain(self, machine, one, other, nest, known, other_known):
        row = agreeing(machine, one, other)
        for n in counts_of(known, 10):
            for m in counts_of(other_known, 10):
                if not has(row, body_times(nest, n, m)):
                    return n, m
        return None

    def test_against_many_counts(self):
        numbers = some(65)
        sets = [set_machine(row) for row in low_rows(9)] + [set_machine(row) for row in low_rows(8, 2)]
        found = 0
        for at in range(700):
            machine = numbers.choice(sets)
            nest, known, other_known = some_nest(numbers, 3), some_known(numbers), some_known(numbers)
            fault = nest_fault(machine, (0,), (1,), nest, known, other_known)
            self.told(self.plain(machine, (0,), (1,), nest, known, other_known), fault)
            found += fault is not None
        self.assertTrue(100 < found < 600)

    def test_the_first_pair(self):
        # 1 and 2 are no counts of the set, 0 and from 3 on all are.
        self.told((0, 1), nest_fault(SHIFT, (0,), (0, 0), (("m", (0,)), ("n", (0,))), (0, 1, None), (0, 1, None)))
        self.told((0, 2), nest_fault(SHIFT, (0,), (0, 0), (("m", (0,)), ("n", (0,))), (0, 1, None), (2, 5, None)))
        self.told((1, 0), nest_fault(SHIFT, (0,), (0, 0), (("m", (0,)), ("n", (0,))), (0, 1, None), (0, 3, None)))
        self.told((2, 1), nest_fault(SHIFT, (0,), (0, 0), TWO, (2, 1, None), (1, 1, None)))
        self.told((2, 1), nest_fault(SHIFT, (0,), (0, 0), TWO, (2, 1, None), (0, 1, None)))

    def test_knowns_of_all_kinds(self):
        self.told(None, nest_fault(SHIFT, (0,), (0, 0), LOOP, (3, 1, None), (0, 1, None)))
        self.told((2, 5), nest_fault(SHIFT, (0,), (0, 0), LOOP, (2, 1, 0), (5, 1, 0)))
        self.told(None, nest_fault(SHIFT, (0,), (0, 0), LOOP, (0, 1, 0), (5, 1, 0)))
        self.told((1, 5), nest_fault(SHIFT, (0,), (0, 0), LOOP, (0, 1, 1), (5, 1, 0)))
        ring = rings_machine((6,), (1,) * 6)
        self.told(None, nest_fault(ring, (0,), (1,), LOOP, (0, 6, None), (0, 1, 0)))
        self.told((LONG, LONG), nest_fault(ring, (0,), (1,), LOOP, (LONG, 6, None), (LONG, LONG, LONG)))
        self.told(None, nest_fault(ring, (0,), (1,), LOOP, (6 * 10 ** 28, 6 * 10 ** 28, LONG), (LONG, LONG, None)))
        self.told(None, nest_fault(ring, (0,), (1,), TWO, (0, 6, None), (7, LONG, None)))
        self.told((1, 7), nest_fault(ring, (0,), (1,), TWO, (0, 1, None), (7, LONG, None)))
        # At the first two counts nothing is seen; the third one is needed, as the degree is 2.
        self.told((2, 0), nest_fault(ring, (0,), (1,), STAIRS, (0, 1, None), (0, 1, 0)))
        self.told(None, nest_fault(ring, (0,), (1,), STAIRS, (0, 1, 1), (0, 1, 0)))
        self.told((2, 0), nest_fault(ring, (0,), (1,), STAIRS, (0, 1, 2), (0, 1, 0)))

    def test_degree_five(self):
        ring = rings_machine((6,), (1,) * 6)
        self.told((5, 9), nest_fault(ring, (0,), (1,), FIVE, (0, 1, None), (9, 1, None)))
        self.told(None, nest_fault(ring, (0,), (1,), FIVE, (0, 1, 4), (9, 1, None)))

    def test_refusals(self):
        good = (0, 1, None)
        self.refused(InvalidRow, 0, nest_fault, SHIFT, (7,), None, None, None, None)
        self.refused(InvalidRow, 0, nest_fault, SHIFT, (0,), None, None, None, None)
        self.refused(InvalidQuestion, 3, nest_fault, SHIFT, (0,), (1,), None, None, None)
        self.refused(InvalidQuestion, 4, nest_fault, SHIFT, (0,), (1,), SQUARE, None, None)
        self.refused(InvalidQuestion, 5, nest_fault, SHIFT, (0,), (1,), SQUARE, good, None)
        for value in NO_NESTS:
            self.refused(InvalidQuestion, 3, nest_fault, SHIFT, (0,), (1,), value, good, good)
        for value in NO_KNOWNS:
            self.refused(InvalidQuestion, 4, nest_fault, SHIFT, (0,), (1,), SQUARE, value, good)
            self.refused(InvalidQuestion, 5, nest_fault, SHIFT, (0,), (1,), SQUARE, good, value)

    def test_by_name(self):
        self.told((1, 3), nest_fault(other_known=(3, 1, None), known=(1, 1, 3), nest=LOOP, other=(0, 0), one=(0,),
                                     machine=SHIFT))


class SureFrom(Case):
    def plain(self, machine, nest, m):
        row = agreeing(machine, (0,), (1,))
        agreed = [has(row, body_times(nest, n, m)) for n in range(90)]
        if not all(agreed[60:]):
            return None
        return max([n + 1 for n in range(90) if not agreed[n]], default=0)

    def test_against_many_counts(self):
        numbers = some(66)
        sets = [set_machine(row) for row in low_rows(10)] + [set_machine(row) for row in low_rows(12, 3)]
        kinds = {}
        for _ in range(700):
            machine, nest, m = numbers.choice(sets), some_nest(numbers, 3), numbers.randrange(4)
            sure = sure_from(machine, (0,), (1,), nest, m)
            self.told(self.plain(machine, nest, m), sure)
            kinds[sure] = True
        self.assertTrue({None, 0, 1, 2, 3} <= set(kinds))

    def test_the_plain_ones(self):
        self.told((0, 3), (sure_from(SHIFT, (0,), (0, 0), (), 5), sure_from(SHIFT, (0,), (0, 0), LOOP, 5)))
        self.told((0, None), (sure_from(SHIFT, (0,), (0, 0), (0, 0, 0), 5), sure_from(SHIFT, (0,), (0, 0), (0,), 5)))
        self.told((0, 3, 2, 0), tuple(sure_from(SHIFT, (0,), (0, 0), TWO, m) for m in (0, 1, 2, LONG)))
        self.told((2, 2, 3), tuple(sure_from(SHIFT, (0,), (0, 0), nest, 2) for nest in (SQUARE, TWO, STAIRS)))
        self.told(0, sure_from(SHIFT, (1,), [1], LOOP, 0))
        self.told((0, None), (sure_from(SHIFT, (1,), (), TWO, 0), sure_from(SHIFT, (1,), (), TWO, 1)))
        ring = rings_machine((6,), (1,) * 6)
        self.told((None, 0, None), tuple(sure_from(ring, (0,), (1,), TWO, m) for m in (4, 6, LONG)))

    def test_greater_than_the_reach(self):
        self.told(3, reach(SHIFT, (0,), (0, 0)))
        self.told(6, sure_from(SHIFT, (0,), (0, 0), FIVE, 0))
        self.told(7, sure_from(SHIFT, (0,), (0, 0), (("n", (("i", (("i", (("i", (("i", (("i", (0,)),)),)),)),)),)),), 0))

    def test_more_with_m_than_with_n(self):
        self.told(3, sure_from(SHIFT, (0,), (0, 0), MORE_WITH_M, 0))
        self.told((0, 0), (sure_from(SHIFT, (0,), (0, 0), MORE_WITH_M, 1),
                           sure_from(SHIFT, (0,), (0, 0), MORE_WITH_M, LONG)))

    def test_refusals(self):
        self.refused(InvalidRow, 0, sure_from, SHIFT, (7,), 5, None, 1)
        self.refused(InvalidRow, 2, sure_from, SHIFT, (0,), (0, 1, True), None, 1)
        for value in NO_NESTS:
            self.refused(InvalidQuestion, 3, sure_from, machine=SHIFT, one=(0,), other=(0,), nest=value, m=0)


class Closings(Case):
    def test_against_many_counts(self):
        numbers = some(67)
        for _ in range(300):
            nest, known, other_known = some_nest(numbers, 3), some_known(numbers), some_known(numbers)
            pairs = [(n, m) for n in counts_of(known, 9) for m in counts_of(other_known, 9)]
            counts = [body_times(nest, n, m) for n, m in pairs]
            row = nest_closing(nest, known, other_known)
            self.assertIs(True, is_falling(row))
            self.told(closing(counts), row)
            wanted = sorted(pairs[counts.index(teller)] for teller in tellers(row))
            self.told(tuple(wanted), nest_tests(nest, known, other_known))

    def test_the_plain_ones(self):
        always = (0, 1, None)
        for nest in ((), (("n", ()),), ((0, (0,)),), ((1, (("i", (0,)),)),)):
            self.told((((), 0), ()), (nest_closing(nest, always, always), nest_tests(nest, always, always)))
        self.told((((), 3), ((0, 0),)), (nest_closing((0, 0, 0), always, always), nest_tests((0,) * 3, always, always)))
        self.told((((), 9), ((9, 7),)), (nest_closing(LOOP, (9, 5, 0), (7, 2, 3)), nest_tests(LOOP, (9, 5, 0), (7, 2, 3))))
        self.told(closing((9, 14)), nest_closing(LOOP, (9, 5, 1), always))
        self.told(((9, 0), (14, 0)), nest_tests(LOOP, (9, 5, 1), always))

    def test_the_first_pair_of_equal_numbers(self):
        both = (("n", (0,)), ("m", (0,)))
        self.told(((0, 7), (0, 8)), nest_tests(both, (0, 1, None), (7, 1, None)))
        self.told(((1, 2),), nest_tests(TWO, (0, 1, 2), (2, 1, 0)))
        self.told(((1, 1),), nest_tests(TWO, (0, 1, None), (0, 1, None)))
        self.told(((0, 6),), nest_tests((("m", (0,)),), (0, 1, None), (6, 6, None)))

    def test_degree_five(self):
        self.told(((5, 0),), nest_tests(FIVE, (0, 1, None), (0, 1, None)))
        self.told(closing((6, 21, 56, 126, 252, 462)), nest_closing(FIVE, (6, 1, None), (0, 1, None)))
        self.told(((6, 0), (7, 0), (8, 0)), nest_tests(FIVE, (6, 1, None), (0, 1, None)))
        self.told(((20, 3), (21, 3), (22, 3), (23, 3), (24, 3)), nest_tests(FIVE, (20, 1, None), (3, 1, 1)))
        # All six are needed here, and all four of two loops that have counts of their own.
        self.told(tuple((n, 3) for n in range(31, 37)), nest_tests(FIVE, (31, 1, None), (3, 1, None)))
        self.told(4, len(nest_tests(TWO, (30, 1, None), (40, 1, None))))
        deep = (("n", (("m", (("n", (("m", (("n", (0,)),)),)),)),)),)
        row = nest_closing(deep, (LONG - 9, 7, None), (LONG - 13, 5, None))
        self.assertIs(True, is_falling(row))
        told = nest_tests(deep, (LONG - 9, 7, None), (LONG - 13, 5, None))
        self.told(row, closing([body_times(deep, n, m) for n, m in told]))
        self.told(tuple(sorted(told)), told)
        for n, m in ((LONG - 9 + 7 * 10 ** 20, LONG - 13), (LONG - 9 + 35, LONG - 13 + 5 * 10 ** 9)):
            self.assertIs(True, has(row, body_times(deep, n, m)))

    def test_they_are_enough(self):
        numbers = some(68)
        sets = [set_machine(row) for row in low_rows(9)]
        for _ in range(200):
            machine, nest = numbers.choice(sets), some_nest(numbers, 3)
            known, other_known = some_known(numbers), some_known(numbers)
            agreed = all([nest_agrees(machine, (0,), (1,), nest, n, m) for n, m in nest_tests(nest, known, other_known)])
            self.assertIs(nest_fault(machine, (0,), (1,), nest, known, other_known) is None, agreed)

    def test_refusals(self):
        good = (0, 1, None)
        for call in (nest_closing, nest_tests):
            self.refused(InvalidQuestion, 0, call, (1,), None, None)
            self.refused(InvalidQuestion, 1, call, SQUARE, None, None)
            self.refused(InvalidQuestion, 2, call, nest=SQUARE, known=good, other_known=None)
            for value in NO_NESTS:
                self.refused(InvalidQuestion, 0, call, value, good, good)
            for value in NO_KNOWNS:
                self.refused(InvalidQuestion, 1, call, SQUARE, value, good)
                self.refused(InvalidQuestion, 2, call, SQUARE, good, value)
