"""[32]: at which counts it never matters which of two tasks begins."""

from itertools import product

from bodyforbody.falling import has, is_falling
from bodyforbody.machines import Machine
from bodyforbody.turns import is_turn_fault, shown, turn_fault, turns
from tests.helpers import (CHAIN, HUNDRED, IDLE, LONG, SHIFT, SIX, Case, few_changes, plain_members, plain_power,
                           plain_row, plain_shown, rings_machine)


def after(first, second):
    return tuple(second[state] for state in first)


def plain_turns(machine, bound):
    """The counts below the bound at which any two shown changes agree in both orders."""
    changes = plain_shown(machine)
    pairs = {(after(u, v), after(v, u)) for u in changes for v in changes}
    return [n for n in range(bound) if all(plain_power(uv, n) == plain_power(vu, n) for uv, vu in pairs)]


class Shown(Case):
    def test_against_all_products(self):
        for machine in few_changes(50, 150, 100):
            self.told(tuple(plain_shown(machine)), shown(machine))

    def test_one_and_100(self):
        self.told(((0, 1),), shown(IDLE))
        self.told(((0,),), shown(Machine(1, [[0]])))
        self.told([100, 100, 100], [len(shown(machine)) for machine in HUNDRED])
        self.told(tuple(sorted(set(shown(HUNDRED[0])))), shown(machine=HUNDRED[0]))


class Turns(Case):
    def test_against_all_pairs(self):
        for machine in few_changes(51, 120, 40):
            row = turns(machine)
            self.assertIs(True, is_falling(row))
            self.told(plain_turns(machine, 30), plain_members(row, 29))

    def test_chains_rings_and_one(self):
        self.told(((((3, 1),), 1), ((), 6), ((), 1)), (turns(CHAIN), turns(machine=SIX), turns(IDLE)))
        self.told(((), 0), turns(Machine(2, [(0, 1), (0, 1)])))
        self.told(plain_turns(SHIFT, 9), plain_members(turns(SHIFT), 8))
        self.told(((), 1), turns(rings_machine((2, 3), (2, 1, 1, 1))))
        self.told(((), 1), turns(Machine(1, [(1,), (2,), (1,)])))

    def test_100_changes(self):
        self.told([((), 50), ((), 1), ((), 0)], [turns(machine) for machine in HUNDRED])

    def test_40_states(self):
        machine = Machine(6, [[max(state - step, 0) for step in (1, 2, 3, 5, 7, 39)] for state in range(40)])
        self.told((40, ((), 1)), (len(shown(machine)), turns(machine)))
        # A long tail: from 0 either command is followed by an own chain.
        steps = [(1, 20)] + [(min(at + 1, 19), 19) for at in range(1, 20)]
        steps += [(39, min(at + 1, 39)) for at in range(20, 40)]
        machine = Machine(2, steps)
        self.assertLessEqual(len(shown(machine)), 100)
        self.told(plain_turns(machine, 45), plain_members(turns(machine), 44))


class TurnFaults(Case):
    def check(self, machine, count):
        fault = turn_fault(machine, count)
        self.assertIs(fault is None, has(turns(machine), count))
        if fault is not None:
            one, other, state = fault
            self.told((1, True), (len(one), len(other) < len(shown(machine))))
            self.assertTrue(isinstance(other, tuple) and 0 <= state < machine.states)
            self.assertIs(True, is_turn_fault(machine, count, fault))
        return fault

    def test_against_turns(self):
        for machine in few_changes(52, 100):
            self.assertIsNone(turn_fault(machine, 0))
            for count in range(14):
                fault = self.check(machine, count)
                if fault is not None:
                    one, other, state = fault
                    self.assertNotEqual(plain_row(machine, one + other, count)[state],
                                        plain_row(machine, other + one, count)[state])

    def test_100_changes_and_30_digits(self):
        for machine in HUNDRED + (CHAIN, SIX, SHIFT, IDLE):
            for count in (0, 1, LONG, LONG - LONG % 50, LONG - LONG % 50 + 25, 2 * 10 ** 29, 2 * 10 ** 29 + 1):
                self.check(machine, count)

    def test_one_change(self):
        for count in (0, 1, LONG):
            self.told(None, turn_fault(count=count, machine=IDLE))
            self.assertIs(False, is_turn_fault(IDLE, count, ((0,), (1,), 0)))

    def test_all_short_rows(self):
        rows = [row for size in range(3) for row in product(range(2), repeat=size)]
        for machine in (CHAIN, SIX, SHIFT):
            for one, other in product(rows, rows):
                for count in range(5):
                    ends, others = plain_row(machine, one + other, count), plain_row(machine, other + one, count)
                    for state in range(machine.states):
                        self.assertIs(ends[state] != others[state],
                                      is_turn_fault(machine, count, (one, other, state)))

    def test_any_other_value(self):
        self.assertIs(True, is_turn_fault(value=((0,), (1,), 0), count=2, machine=CHAIN))
        for value in (None, 7, (), [(0,), (1,), 0], ([0], (1,), 0), ((0,), [1], 0), ((0,), (1,)), ((0,), (1,), 0, 0),
                      ((0,), (2,), 0), ((0,), (-1,), 0), ((0,), (True,), 0), ((False,), (1,), 0), ((0,), (1,), False),
                      ((0,), (1,), 6), ((0,), (1,), -6), ((0,), (1,), None), ((0,), (1,), 0.0), ((0.0,), (1,), 0),
                      (0, 1, 0), ("0", "1", 0), (None, (1,), 0), ((0,), (1,), (0,)), ((0,), ((1,),), 0), "010",
                      ((0,), (0,), 0), ((), (1,), 0), ((0,), (1,), 10 ** 30)):
            self.assertIs(False, is_turn_fault(CHAIN, 2, value), value)

    def test_long_rows_and_counts(self):
        self.assertIs(True, is_turn_fault(SIX, LONG - 1, ((0,) * 999, (1,), 0)))
        self.assertIs(True, is_turn_fault(SIX, LONG - 2, ((0, 1) * 250, (1,), 0)))
        self.assertIs(False, is_turn_fault(SIX, LONG - LONG % 6, ((0,) * 999, (1,) * 999, 0)))
        self.assertIs(False, is_turn_fault(SIX, 0, ((0,), (1,), 0)))
        self.assertIs(False, is_turn_fault(SIX, LONG, ((0, 1) * 500, (0, 1), 0)))
