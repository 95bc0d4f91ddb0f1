"""[15] and [16]: at which counts two bodies agree."""

from math import lcm

from bodyforbody.changes import change_of, ring, same_loops, tail
from bodyforbody.court import agreeing, is_loop_fault, loop_fault, reach, settles
from bodyforbody.errors import InvalidRow
from bodyforbody.falling import has, is_falling
from bodyforbody.machines import Machine
from tests.helpers import LONG, SHIFT, Case, machines, plain_members, plain_row, rings_machine, some

ROWS = (((0,), (1,)), ((0,), (0, 0)), ((), (1,)), ((0, 1), (1, 0)), ((0, 0, 1), (0, 1, 0, 1)), ((1, 1), (1, 1)))


def cases(seed, many, most=7):
    for at, machine in enumerate(machines(seed, many, most)):
        one, other = ROWS[at % len(ROWS)]
        yield machine, one, other


def plain_agreeing(machine, one, other, bound):
    """The counts below the bound at which both rows lead each state to the same one."""
    first = second = plain_row(machine, ())
    step, other_step = plain_row(machine, one), plain_row(machine, other)
    found = []
    for count in range(bound):
        if first == second:
            found.append(count)
        first = tuple(step[state] for state in first)
        second = tuple(other_step[state] for state in second)
    return found


class Agreeing(Case):
    def test_against_one_by_one(self):
        for machine, one, other in cases(11, 400):
            row = agreeing(machine, one, other)
            bound = reach(machine, one, other) + 2 * lcm(ring(change_of(machine, one)), ring(change_of(machine, other)))
            self.assertIs(True, is_falling(row))
            self.told(plain_agreeing(machine, one, other, bound + 2), plain_members(row, bound + 1))

    def test_no_loss(self):
        self.told(((), 6), agreeing(rings_machine((2, 3), (1, 1, 1, 1, 1)), (0,), (1,)))
        self.told(((), 1), agreeing(SHIFT, (1, 0), [1, 0]))
        self.told(((), 2), agreeing(rings_machine((4,), (4,)), (0,), (1, 1, 1)))
        self.told(((), 3), agreeing(rings_machine((12,), (12,)), (0,), (1,) * 5))
        self.told(((), 4), agreeing(rings_machine((9, 4), (9, 1, 1, 1, 1)), (0,), (1,)))

    def test_zero_alone(self):
        self.told(((), 0), agreeing(SHIFT, (1,), ()))
        self.told(((), 0), agreeing(Machine(2, [(0, 1), (0, 1)]), (0,), (1,)))
        self.told(None, settles(Machine(2, [(0, 1), (0, 1)]), (0,), (1,)))

    def test_the_empty_rows(self):
        self.told(((), 1), agreeing(SHIFT, (), []))
        self.told((0, 0), (reach(SHIFT, (), ()), settles(SHIFT, (), ())))

    def test_40_states(self):
        machine = rings_machine((5, 7, 9, 11, 8), (16, 13, 11))
        row = agreeing(machine, (0,), (1,))
        self.told((), row[0])
        for count in (row[1], row[1] * 3, row[1] * 10 ** 20):
            self.assertIs(True, same_loops(machine, (0,), (1,), count))
        for prime in (2, 3, 5, 7, 11, 13):
            if row[1] % prime == 0:
                self.assertIs(False, same_loops(machine, (0,), (1,), row[1] // prime))
        chain = Machine(2, [(max(state - 1, 0), max(state - 2, 0)) for state in range(40)])
        self.told((((39, 1),), 1), agreeing(chain, (0,), (1,)))
        self.told((39, 39), (reach(chain, (0,), (1,)), settles(chain, (0,), (1,))))
        self.told((((20, 1),), 1), agreeing(chain, (1,), (1, 0)))

    def test_rings_behind_tails(self):
        steps = [(1, 2), (2, 3), (3, 4), (4, 5), (5, 6), (6, 7), (7, 8), (8, 9), (4, 4), (5, 5)]
        machine = Machine(2, steps)
        for one, other in ROWS:
            row = agreeing(machine, one, other)
            self.told(plain_agreeing(machine, one, other, 300), plain_members(row, 299))

    def test_settled_before_the_reach(self):
        machine = Machine(2, [(0, 0), (0, 0), (1, 1), (2, 4), (1, 1)])
        self.told((((2, 1),), 1), agreeing(machine, (0,), (1,)))
        self.told((3, 2), (reach(machine, (0,), (1,)), settles(machine, (0,), (1,))))

    def test_settled_at_the_reach_only(self):
        chain = [(max(state - 1, 0), max(state - 2, 0)) for state in range(5)]
        for length in (2, 4):
            ring_steps = [(5 + (at + 1) % length,) * 2 for at in range(length)]
            machine = Machine(2, chain + ring_steps)
            self.told((((4, 1),), 1), agreeing(machine, (0,), (1,)))
            self.told((4, 4), (reach(machine, (0,), (1,)), settles(machine, (0,), (1,))))

    def test_the_first_row_ahead_of_the_second(self):
        for call in (agreeing, reach, settles):
            self.refused(InvalidRow, 2, call, SHIFT, (0, 0, 2), (2,))
            self.refused(InvalidRow, 1, call, SHIFT, (0,), (0, True))
            self.refused(InvalidRow, 0, call, SHIFT, None, (0, 2))
        self.refused(InvalidRow, 2, loop_fault, SHIFT, (0, 0, 2), (2,), 1)
        self.refused(InvalidRow, 1, loop_fault, SHIFT, (), (0, 2), 1)
        self.refused(InvalidRow, 2, is_loop_fault, SHIFT, (0, 0, 2), (2,), 1, (0, 0, 0))
        self.refused(InvalidRow, 1, is_loop_fault, SHIFT, (), (0, 2), 1, None)

    def test_by_name(self):
        self.told((((3, 1),), 1), agreeing(other=[0, 0], one=[0], machine=SHIFT))
        self.told((3, 3), (reach(other=(1,), one=(0,), machine=SHIFT), settles(other=(0, 0), one=(0,), machine=SHIFT)))
        self.told(None, loop_fault(count=3, other=(0, 0), one=(0,), machine=SHIFT))
        self.told(True, is_loop_fault(value=(3, 2, 1), count=1, other=(0, 0), one=(0,), machine=SHIFT))


class Faults(Case):
    def test_against_one_by_one(self):
        for machine, one, other in cases(12, 120):
            for count in range(8):
                ends = plain_row(machine, one, count)
                others = plain_row(machine, other, count)
                fault = loop_fault(machine, one, other, count)
                self.assertIs(ends == others, fault is None)
                if fault is not None:
                    state, end, other_end = fault
                    self.told((ends[state], others[state]), (end, other_end))
                    self.assertNotEqual(end, other_end)
                for state in range(machine.states):
                    for end in range(machine.states):
                        value = (state, end, others[state])
                        wanted = ends[state] == end and ends[state] != others[state]
                        self.assertIs(wanted, is_loop_fault(machine, one, other, count, value))
                        value = (state, ends[state], end)
                        wanted = others[state] == end and ends[state] != others[state]
                        self.assertIs(wanted, is_loop_fault(machine, one, other, count, value))

    def test_any_other_value(self):
        self.assertIs(True, is_loop_fault(SHIFT, (0,), (0, 0), 1, (2, 1, 0)))
        for value in (None, 3, [2, 1, 0], (2, 1), (2, 1, 0, 0), (), (4, 1, 0), (2, True, 0), (2, 1, False), (2.0, 1, 0),
                      (-2, 1, 0), (2, 0, 1), ("2", 1, 0), "210", (2, 1, None), ((2,), 1, 0), (10 ** 30, 1, 0)):
            self.assertIs(False, is_loop_fault(SHIFT, (0,), (0, 0), 1, value), value)
        self.assertIs(False, is_loop_fault(SHIFT, (0,), (0, 0), 0, (2, 2, 2)))
        self.assertIs(False, is_loop_fault(SHIFT, (0,), (0, 0), 3, (2, 0, 0)))

    def test_30_digits(self):
        machine = rings_machine((7,), (7,))
        self.told(((), 7), agreeing(machine, (0,), (1, 1)))
        count = LONG - LONG % 7
        self.told(None, loop_fault(machine, (0,), (1, 1), count))
        state, end, other_end = loop_fault(machine, (0,), (1, 1), count + 1)
        self.told(((state + 1) % 7, (state + 2) % 7), (end, other_end))
        self.assertIs(True, is_loop_fault(machine, (0,), (1, 1), count + 1, (3, 4, 5)))
        self.assertIs(False, is_loop_fault(machine, (0,), (1, 1), count, (3, 4, 5)))


class Settling(Case):
    def test_against_one_by_one(self):
        for machine, one, other in cases(13, 300):
            row = agreeing(machine, one, other)
            start = max(tail(change_of(machine, one)), tail(change_of(machine, other)))
            self.told(start, reach(machine, one, other))
            if row[1] == 0:
                self.assertIsNone(settles(machine, one, other))
                continue
            bound = start + 3 * row[1]
            counts = plain_agreeing(machine, one, other, bound)
            good = [n for n in counts if [k for k in counts if k >= n] == [k for k in range(bound) if k >= n
                                                                           and k % row[1] == 0]]
            self.told(good[0], settles(machine, one, other))
            self.assertTrue(has(row, good[0]))
