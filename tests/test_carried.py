"""[34]: rows that are carried over a loop."""

from math import lcm

from bodyforbody.carried import carried, carry_fault
from bodyforbody.changes import change_of, ring, tail
from bodyforbody.court import agreeing
from bodyforbody.errors import InvalidRow
from bodyforbody.falling import has, is_falling
from bodyforbody.machines import Machine
from tests.helpers import CHAIN, LONG, SHIFT, SIX, Case, machines, plain_members, plain_row, rings_machine

ROWS = (((0,), (1,), (1, 0)), ((0,), (1,), (0,)), ((0, 1), (0,), (1, 0)), ((0,), (), (0, 0)), ((), (0,), (1,)),
        ((1, 1), (0, 1), (1,)), ((0,), (1, 1, 0), ()), ((0,), (0,), (0,)))


def both_ways(machine, one, row, other, count):
    return plain_row(machine, one * count + row), plain_row(machine, row + other * count)


class Carried(Case):
    def test_against_one_by_one(self):
        for machine in machines(57, 60, 6):
            for one, row, other in ROWS:
                told = carried(machine, one, row, other)
                self.assertIs(True, is_falling(told))
                first, second = change_of(machine, one), change_of(machine, other)
                bound = min(max(tail(first), tail(second)) + 2 * lcm(ring(first), ring(second)), 40)
                wanted = []
                for count in range(bound + 1):
                    ahead, behind = both_ways(machine, one, row, other, count)
                    unlike = [state for state in range(machine.states) if ahead[state] != behind[state]]
                    if not unlike:
                        wanted.append(count)
                    state = carry_fault(machine, one, row, other, count)
                    self.assertTrue(state in unlike if unlike else state is None)
                    self.assertNotIsInstance(state, bool)
                self.told(wanted, plain_members(told, bound))

    def test_the_empty_row_in_the_middle(self):
        for machine in machines(58, 60, 8):
            for one, other in (((0,), (1,)), ((0, 1), (1, 0)), ((), (1,))):
                self.told(agreeing(machine, one, other), carried(machine, one, (), other))

    def test_two_tasks_begun_by_either(self):
        for machine in list(machines(59, 60, 8)) + [CHAIN, SIX, SHIFT]:
            for one, other in (((0,), (1,)), ((0, 0), (1,)), ((1, 0), (0,)), ((), (1,))):
                self.told(((), 1), carried(machine, one + other, one, other + one))
                self.told(None, carry_fault(machine, one + other, one, other + one, LONG))

    def test_one_after_the_other(self):
        for machine in machines(60, 60, 6):
            first = carried(machine, (0,), (1,), (1, 0))
            second = carried(machine, (1, 0), (0, 1), (1,))
            both = carried(machine, (0,), (1, 0, 1), (1,))
            for count in range(20):
                self.assertTrue(has(both, count) or not has(first, count) or not has(second, count))

    def test_the_same_body_twice(self):
        self.told((((), 3), ((), 1)), (carried(SIX, (0, 1), (0,), (0, 1)), carried(SIX, (0,), (0,), [0])))
        self.told((((), 2), 0), (carried(SIX, [0], [1], [0]), carry_fault(SIX, (0,), (1,), (0,), 1)))

    def test_zero_alone(self):
        machine = Machine(2, [(0, 1), (0, 1)])
        self.told(((), 0), carried(machine, (0,), (), (1,)))
        self.told((None, 0), (carry_fault(machine, (0,), (), (1,), 0), carry_fault(machine, (0,), (), (1,), LONG)))
        self.told(((), 0), carried(SHIFT, (1,), (0,), (1,)))

    def test_30_digits(self):
        self.told(None, carry_fault(count=10 ** 20, other=(1,), row=(1,), one=(0,), machine=CHAIN))
        machine = rings_machine((7, 3), (1,) * 10)
        count = LONG - LONG % 21
        self.told(((), 21), carried(other=[1], row=(0,), one=(0,), machine=machine))
        self.told(None, carry_fault(machine, (0,), (0,), (1,), count))
        self.told(0, carry_fault(machine, (0,), (0,), (1,), count + 3))
        self.told(7, carry_fault(machine, (0,), (), (1,), count + 7))

    def test_40_states_and_long_rows(self):
        machine = Machine(2, [(max(state - 1, 0), max(state - 2, 0)) for state in range(40)])
        self.told((((39, 1),), 1), carried(machine, (0,), (), (1,)))
        self.told((((36, 1),), 1), carried(machine, (0,), (0, 1), (1,)))
        self.told(((), 1), carried(machine, (0,), (1,) * 1000, (1,)))
        self.told(((), 1), carried(machine, (0, 1) * 500, (1,), (1, 0) * 500))

    def test_rows_are_kept(self):
        rows = [0, 1], [1], [1, 0]
        told = carried(SIX, *rows)
        carry_fault(SIX, *rows, 3)
        self.told(([0, 1], [1], [1, 0]), rows)
        rows[0].append(0)
        self.told(told, carried(SIX, (0, 1), (1,), (1, 0)))

    def test_rows_are_refused_from_left_to_right(self):
        for call, more in ((carried, ()), (carry_fault, (3,))):
            self.refused(InvalidRow, 1, call, SHIFT, (0, 2), (1, 1, 2), (1, 1, 1, 2), *more)
            self.refused(InvalidRow, 2, call, SHIFT, (0,), (1, 1, 2), (1, 1, 1, 2), *more)
            self.refused(InvalidRow, 3, call, SHIFT, (0,), (1,), [1, 1, 1, True], *more)
            self.refused(InvalidRow, 0, call, SHIFT, None, (1, 2), (1,), *more)
            self.refused(InvalidRow, 0, call, SHIFT, (1,), "0", (1, 2), *more)
            self.refused(InvalidRow, 0, call, SHIFT, (1,), (0,), {0: 1}, *more)
