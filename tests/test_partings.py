"""[50]: machines that part two mixes although their bodies agree as told."""

from itertools import product

from bodyforbody.accords import accord_exchanges, is_accord_exchanges
from bodyforbody.changes import change_of, same_loops
from bodyforbody.errors import InvalidQuestion
from bodyforbody.machines import Machine
from bodyforbody.partings import is_parting_machine, parting_machine
from bodyforbody.texts import machine_text
from tests.helpers import Case, machines, mixes_of, plain_row, some
from tests.test_accords import NO_ACCORDS, NO_SHORT_MIXES, ROUND, some_accords


class Partings(Case):
    def check(self, bodies, accords, one, other):
        machine = parting_machine(bodies, accords, one, other)
        told = accord_exchanges(bodies, accords, one, other)
        self.assertIs(told is None, machine is not None)
        if machine is None:
            self.assertIs(True, is_accord_exchanges(bodies, accords, one, other, told))
            return None
        self.assertIs(True, is_parting_machine(bodies, accords, one, other, machine))
        self.told(bodies, machine.commands)
        for letter, behind, count in accords:
            self.told(plain_row(machine, (letter,), count), plain_row(machine, (behind,), count))
        self.assertNotEqual(plain_row(machine, one), plain_row(machine, other))
        return machine

    def test_each_two_mixes_of_few_letters(self):
        mixes = [mix for size in range(4) for mix in mixes_of(2, size)]
        for accords in ((), [(0, 1, 1)], ((0, 1, 2),), ((1, 0, 3), (0, 1, 2)), [(0, 0, 2), (1, 1, 0)], [(0, 1, 0), (0, 1, 3)]):
            for one, other in product(mixes, mixes):
                self.check(2, accords, one, other)
        mixes = mixes_of(3, 2) + [(), (0,), (2,)]
        for accords in ((), ((0, 2, 1),), ((0, 1, 2), (1, 2, 2)), ((0, 1, 2), (1, 2, 1))):
            for one, other in product(mixes, mixes):
                self.check(3, accords, one, other)
        for one, other in product([(0,) * size for size in range(9)], repeat=2):
            self.check(1, ((0, 0, 3),), one, other)

    def test_8_letters(self):
        numbers = some(107)
        for _ in range(60):
            accords = some_accords(numbers, 3, 6, 8)
            one = tuple(numbers.choice((0, 0, numbers.randrange(3))) for _ in range(8))
            other = tuple(numbers.choice((1, 1, numbers.randrange(3))) for _ in range(numbers.choice((8, 8, 8, 5))))
            self.check(3, accords, one, other)
        self.assertIsNotNone(self.check(3, ROUND, (0,) * 7, (1,) * 7))
        self.assertIsNone(self.check(3, ROUND, (0,) * 8, (1,) * 8))
        self.assertIsNotNone(self.check(3, ((0, 1, 60), (1, 2, 59)), (0,) * 8, (1,) * 8))

    def test_equal_and_empty_mixes(self):
        self.told((None, None), (parting_machine(2, (), (), ()), parting_machine(2, (), (0, 1), (0, 1))))
        self.assertIsNotNone(self.check(2, ((0, 1, 1),), (), (0,)))
        self.assertIsNotNone(self.check(2, ((0, 1, 1),), (0, 1), ()))
        self.assertIsNotNone(parting_machine(other=(0,), one=(1,), accords=(), bodies=2))

    def test_more_than_40_states_are_passed_on(self):
        numbers = some(108)
        most = 0
        for _ in range(300):
            accords = [(0, 1, 2), (0, 2, 3), (1, 2, numbers.randint(2, 5))][:numbers.randint(1, 3)]
            one = tuple(numbers.choice((0, 0, 0, 1, 2)) for _ in range(8))
            machine = parting_machine(3, accords, one, (0, 1, 2, 0, 1, 2, 0, 1))
            if machine is not None and machine.states > 40:
                most = max(most, machine.states)
                self.assertIs(True, is_parting_machine(3, accords, one, (0, 1, 2, 0, 1, 2, 0, 1), machine))
                self.assertIs(True, same_loops(machine, (0,), (1,), 2 * 10 ** 29))
                self.told(machine.states, len(change_of(machine, one)))
                self.assertIs(True, machine_text(machine).startswith("machine 3 "))
        self.assertGreater(most, 40)

    def test_refusals(self):
        for call, more in ((parting_machine, ()), (is_parting_machine, (None,))):
            self.refused(InvalidQuestion, 1, call, 2, None, None, None, *more)
            self.refused(InvalidQuestion, 2, call, 2, (), None, None, *more)
            for value in NO_ACCORDS:
                self.refused(InvalidQuestion, 1, call, 2, value, (0,), (0,), *more)
            for value in NO_SHORT_MIXES:
                self.refused(InvalidQuestion, 2, call, 2, (), value, (0,), *more)
                self.refused(InvalidQuestion, 3, call, 2, (), (0,), value, *more)


class ArePartings(Case):
    def test_any_machine(self):
        found = 0
        for machine in machines(109, 300, 4):
            for one, other, count in (((0,), (1,), 2), ((0, 0), (1, 0), 3), ((0, 1), (1, 0), 0), ((), (0,), 1)):
                agrees = plain_row(machine, (0,), count) == plain_row(machine, (1,), count)
                wanted = agrees and plain_row(machine, one) != plain_row(machine, other)
                found += wanted
                self.assertIs(wanted, is_parting_machine(2, [(1, 0, count)], one, other, machine))
        self.assertGreater(found, 100)

    def test_others(self):
        good = Machine(2, [(0, 1), (1, 0)])
        self.assertIs(True, is_parting_machine(value=good, other=(1,), one=(0,), accords=[(0, 1, 2)], bodies=2))
        for value in (None, 5, "machine 2 2", ((0, 1), (1, 0)), Machine(1, [(1,), (0,)]), Machine(3, [(0, 1, 0), (1, 0, 1)]),
                      Machine(2, [(0, 0), (1, 1)]), (good,), [good], Machine(2, [(0, 1), (0, 1)])):
            self.assertIs(False, is_parting_machine(2, [(0, 1, 2)], (0,), (1,), value))
        self.assertIs(False, is_parting_machine(2, [(0, 1, 2)], (0, 0), (1, 1), good))
        self.assertIs(False, is_parting_machine(2, [(0, 1, 2), (0, 1, 3)], (0,), (1,), good))
