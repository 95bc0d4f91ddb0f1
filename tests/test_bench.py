"""[51] and [52]: benches, their deeds, undoing, work within."""

from itertools import permutations

from bodyforbody.bench import Bench
from bodyforbody.closing import closing
from bodyforbody.court import agreeing
from bodyforbody.errors import InvalidQuestion, InvalidRow, Refused
from bodyforbody.falling import has
from bodyforbody.machines import Machine
from tests.helpers import IDLE, LONG, NO_NUMBERS, NO_SEQUENCES, SHIFT, SIX, Case, machines, plain_members, plain_row, some

NO_ROWS = (((2,), 0), ([0, 1, 2], 2), ((0, -1), 1), ((True,), 0), ([0, False], 1), ((0, 0, 1.0), 2), (("0",), 0),
           ((None,), 0), (((0,),), 0)) + tuple((value, 0) for value in NO_SEQUENCES)


def filled(*loops, machine=SHIFT):
    """A bench with these loops."""
    bench = Bench(machine)
    for at, (count, row) in enumerate(loops):
        bench.put(at, count, row)
    return bench


class BenchCase(Case):
    def unchanged(self, error, at, bench, call, *told, **named):
        """The deed is refused, and then all is as it was."""
        before = bench.program(), bench.effect(), bench.steps(), len(bench)
        self.refused(error, at, call, *told, **named)
        self.told(before, (bench.program(), bench.effect(), bench.steps(), len(bench)))


class Made(BenchCase):
    def test_an_empty_one(self):
        bench = Bench(SHIFT)
        self.assertIs(SHIFT, bench.machine)
        self.told(((), (0, 1, 2, 3), 0, 0, False),
                  (bench.program(), bench.effect(), bench.steps(), len(bench), bench.undo()))
        self.assertEqual(IDLE, Bench(machine=IDLE).machine)

    def test_no_machines(self):
        for value in (None, 5, "machine 1 1\n0", ((0,),), (2, ((0, 0),)), [SHIFT], (SHIFT,), {}, Bench(SHIFT), True, Machine):
            self.refused(Refused, 0, Bench, value)
        self.refused(Refused, 0, Bench, machine=None)

    def test_equals_nothing_of_another_kind(self):
        self.assertFalse(Bench(SHIFT) == SHIFT or Bench(SHIFT) == () or Bench(SHIFT) == 0 or Bench(SHIFT) == None)  # noqa


class Deeds(BenchCase):
    def test_put(self):
        bench = Bench(SHIFT)
        self.assertIsNone(bench.put(0, 3, (0,)))
        self.assertIsNone(bench.put(row=[1, 0], count=0, at=0))
        bench.put(2, 5, ())
        bench.put(1, LONG, (1,))
        self.told((((0, (1, 0)), (LONG, (1,)), (3, (0,)), (5, ())), 4), (bench.program(), len(bench)))
        self.told(LONG + 3, bench.steps())

    def test_put_refused(self):
        for bench in (Bench(SHIFT), filled((3, (0,)), (2, (1, 1)))):
            size = len(bench.program())
            for at in NO_NUMBERS + (size + 1, LONG):
                self.unchanged(InvalidQuestion, 0, bench, bench.put, at, None, None)
            for count in NO_NUMBERS:
                self.unchanged(InvalidQuestion, 1, bench, bench.put, size, count, None)
                self.unchanged(InvalidQuestion, 1, bench, lambda: bench.put(row=(9,), count=count, at=0))
            for row, at in NO_ROWS:
                self.unchanged(InvalidRow, at, bench, bench.put, 0, 1, row)

    def test_take(self):
        bench = filled((1, (0,)), (2, (1,)), (3, (0, 0)))
        self.assertIsNone(bench.take(2))
        self.assertIsNone(bench.take(at=0))
        self.told((((2, (1,)),), 5), (bench.program(), len(bench)))
        bench.take(0)
        self.told(((), 6), (bench.program(), len(bench)))

    def test_take_refused(self):
        for bench in (Bench(SHIFT), filled((3, (0,)), (2, (1, 1)))):
            for at in NO_NUMBERS + (len(bench.program()), LONG):
                self.unchanged(InvalidQuestion, 0, bench, bench.take, at)

    def test_exchange(self):
        bench = filled((2, (0,)), (3, (0,)), (LONG, [1]))
        effect = bench.effect()
        self.told((False, True, True), (bench.could(0, (0, 0)), bench.could(1, [0, 0]), bench.could(2, (1, 1))))
        self.assertIsNone(bench.exchange(1, [0, 0]))
        self.assertIsNone(bench.exchange(row=(1, 1, 1), at=2))
        self.told((((2, (0,)), (3, (0, 0)), (LONG, (1, 1, 1))), 5), (bench.program(), len(bench)))
        self.told((effect, 2 + 6 + 3 * LONG), (bench.effect(), bench.steps()))
        self.unchanged(Refused, 1, bench, bench.exchange, 0, (0, 0))
        self.unchanged(Refused, 1, bench, bench.exchange, 0, ())
        bench.exchange(0, (0,))
        self.told(6, len(bench))

    def test_exchange_at_the_count_0(self):
        bench = filled((0, (0,)))
        self.assertIs(True, bench.could(row=(1, 0), at=0))
        bench.exchange(0, ())
        self.told((((0, ()),), 0), (bench.program(), bench.steps()))

    def test_exchange_refused(self):
        for bench in (Bench(SHIFT), filled((3, (0,)), (2, (1, 1)))):
            for at in NO_NUMBERS + (len(bench.program()), LONG):
                for call in (bench.exchange, bench.could):
                    self.unchanged(InvalidQuestion, 0, bench, call, at, None)
        bench = filled((3, (0,)), (2, (1, 1)))
        for row, at in NO_ROWS:
            for call in (bench.exchange, bench.could):
                self.unchanged(InvalidRow, at, bench, call, 1, row)

    def test_could_against_rows(self):
        numbers = some(111)
        for machine in machines(112, 100):
            count, body, other = numbers.randrange(6), (numbers.randrange(2),), (numbers.randrange(2),) * numbers.randrange(4)
            bench = filled((1, (1,)), (count, body), machine=machine)
            wanted = plain_row(machine, body, count) == plain_row(machine, other, count)
            self.assertIs(wanted, bench.could(1, other))
            if wanted:
                bench.exchange(1, other)
                self.told(((1, (1,)), (count, other)), bench.program())
            else:
                self.unchanged(Refused, 1, bench, bench.exchange, 1, other)

    def test_a_list_that_is_changed_afterwards(self):
        bench, row, other = Bench(SHIFT), [0, 0], [0]
        bench.put(0, 3, row)
        row.append(1)
        self.told((((3, (0, 0)),), [0, 0, 1]), (bench.program(), row))
        bench.exchange(0, other)
        other[0] = 7
        self.told((((3, (0,)),), (0, 0, 0, 0)), (bench.program(), bench.effect()))

    def test_a_program_is_kept(self):
        bench = filled((3, (0,)))
        told = bench.program()
        bench.take(0)
        self.told((((3, (0,)),), ()), (told, bench.program()))


class Effects(BenchCase):
    def test_against_rows(self):
        numbers = some(113)
        for machine in machines(114, 80):
            loops = [(numbers.randrange(5), tuple(numbers.randrange(2) for _ in range(numbers.randrange(4))))
                     for _ in range(numbers.randrange(5))]
            bench = filled(*loops, machine=machine)
            row = [command for count, body in loops for command in body * count]
            self.told((plain_row(machine, row), len(row)), (bench.effect(), bench.steps()))

    def test_30_digits(self):
        bench = filled((LONG, (0, 1, 1)), (LONG - 1, (1, 0)), (LONG, ()), machine=SIX)
        self.told(LONG * 3 + (LONG - 1) * 2, bench.steps())
        row = (0, 1, 1) * (LONG % 6) + (1, 0) * ((LONG - 1) % 6)
        self.told(plain_row(SIX, row), bench.effect())

    def test_exchanges_never_change_it(self):
        loops = ((3, (0,)), (4, (0, 0)), (5, (1,)), (3, (0, 0, 0)), (2, (0, 1)))
        others = ((0, (0, 0)), (1, (0,) * 5), (2, (1, 1)), (3, (0,)))
        for order in permutations(others):
            bench = filled(*loops)
            effect = bench.effect()
            for at, row in order:
                bench.exchange(at, row)
                self.told(effect, bench.effect())
            self.told(tuple((loops[at][0], row) for at, row in others) + loops[4:], bench.program())

    def test_exchanges_at_each_count_of_a_closing(self):
        for machine in machines(115, 60):
            agreed = [count for count in plain_members(agreeing(machine, (0,), (1,)), 12) if count][:2]
            for count in range(25):
                if has(closing(agreed), count):
                    filled((count, (0,)), machine=machine).exchange(0, (1,))


class Undone(BenchCase):
    def test_each_kind_of_deed(self):
        bench = Bench(SHIFT)
        programs = [bench.program()]
        for deed in (lambda: bench.put(0, 3, (0,)), lambda: bench.put(0, 2, (1,)), lambda: bench.exchange(1, (0, 0)),
                     lambda: bench.take(0), lambda: bench.put(1, 7, ()), lambda: bench.exchange(1, ()),
                     lambda: bench.take(0), lambda: bench.take(0)):
            deed()
            programs.append(bench.program())
            self.told(len(programs) - 1, len(bench))
        for program in reversed(programs[:-1]):
            self.assertIs(True, bench.undo())
            self.told(program, bench.program())
        self.told((False, False, 0, ()), (bench.undo(), bench.undo(), len(bench), bench.program()))

    def test_deeds_behind_an_undone_one(self):
        bench = filled((3, (0,)), (2, (1,)))
        bench.undo()
        bench.put(0, 1, (0, 1))
        self.told((((1, (0, 1)), (3, (0,))), 2), (bench.program(), len(bench)))
        bench.undo()
        self.told((((3, (0,)),), 1), (bench.program(), len(bench)))

    def test_against_kept_programs(self):
        numbers = some(116)
        bench, kept = Bench(SHIFT), [()]
        for _ in range(400):
            size = len(bench.program())
            kind = numbers.randrange(4)
            if kind == 0 or size == 0:
                bench.put(numbers.randint(0, size), numbers.randrange(5), [numbers.randrange(2)])
            elif kind == 1:
                bench.take(numbers.randrange(size))
            elif kind == 2:
                at = numbers.randrange(size)
                row = (numbers.randrange(2),) * numbers.randrange(3)
                if not bench.could(at, row):
                    self.unchanged(Refused, 1, bench, bench.exchange, at, row)
                    continue
                bench.exchange(at, row)
            else:
                self.assertIs(len(kept) > 1, bench.undo())
                kept = kept[:-1] or kept
                self.told((kept[-1], len(kept) - 1), (bench.program(), len(bench)))
                continue
            kept.append(bench.program())
            self.told(len(kept) - 1, len(bench))


class Within(BenchCase):
    def test_what_it_returns(self):
        bench = filled((3, (0,)))

        def work(given):
            self.assertIs(bench, given)
            self.told(1, len(given))
            given.put(1, 2, (1,))
            given.exchange(0, (0, 0))
            given.take(1)
            self.told((((3, (0, 0)),), 4), (given.program(), len(given)))
            return [given.effect()]

        self.told([(0, 0, 0, 0)], bench.within(work))
        self.told((((3, (0,)),), 1), (bench.program(), len(bench)))
        self.assertIsNone(bench.within(work=lambda given: given.put(0, 1, ())))
        self.told((((3, (0,)),), 1, True, 0, ()),
                  (bench.program(), len(bench), bench.undo(), len(bench), bench.program()))

    def test_an_error_is_passed_on(self):
        bench = filled((3, (0,)), (1, (1,)))

        def refused(given):
            given.take(0)
            given.put(0, 0, (7,))

        self.unchanged(InvalidRow, 0, bench, bench.within, refused)
        for error in (KeyError, ZeroDivisionError, RuntimeError, KeyboardInterrupt):
            def work(given):
                given.take(1)
                given.take(0)
                raise error("told")

            with self.assertRaises(error) as caught:
                bench.within(work)
            self.told(("told",), caught.exception.args)
            self.told((((3, (0,)), (1, (1,))), 2), (bench.program(), len(bench)))

    def test_one_in_another(self):
        bench = filled((3, (0,)))

        def inner(given):
            given.put(0, 1, (1,))
            given.put(0, 2, ())
            given.undo()
            return given.steps(), len(given)

        def outer(given):
            given.put(1, 5, (0,))
            told = given.within(inner)
            self.told((((3, (0,)), (5, (0,))), 2), (given.program(), len(given)))
            try:
                given.within(lambda again: again.put(9, 9, 9))
            except InvalidQuestion:
                given.take(0)
            self.told((((5, (0,)),), 3), (given.program(), len(given)))
            given.undo()
            return told

        self.told((9, 3), bench.within(outer))
        self.told((((3, (0,)),), 1), (bench.program(), len(bench)))
        self.assertIs(True, bench.undo())
        self.told((((),), False), ((bench.program(),), bench.undo()))

    def test_deeds_undone_in_it(self):
        bench = filled((3, (0,)), (2, (1,)))

        def work(given):
            given.take(0)
            given.put(0, 4, (0,))
            return given.undo(), given.undo(), len(given)

        self.told((True, True, 2), bench.within(work))
        self.told((((3, (0,)), (2, (1,))), 2), (bench.program(), len(bench)))


class TwoBenches(BenchCase):
    def test_beside_one_another(self):
        one, other = Bench(SHIFT), Bench(SIX)
        one.put(0, 3, (0,))
        self.told(((), 0, (0, 1, 2)), (other.program(), len(other), other.effect()))
        other.put(0, 1, (1,))
        other.put(1, 1, (0,))
        self.told((((3, (0,)),), 1, (0, 0, 0, 0)), (one.program(), len(one), one.effect()))
        one.undo()
        self.told((0, 2, plain_row(SIX, (1, 0))), (len(one), len(other), other.effect()))
        same = Bench(SHIFT)
        one.put(0, 1, (1,))
        self.told((1, 0), (len(one), len(same)))
