"""[33]: at which counts the order of more tasks never matters, and moves from one order to another."""

from itertools import permutations, product

from bodyforbody.falling import has, is_falling
from bodyforbody.machines import Machine
from bodyforbody.orders import is_order_fault, moves, order_fault, orders
from bodyforbody.turns import shown, turns
from tests.helpers import (CHAIN, HUNDRED, IDLE, LONG, SHIFT, SIX, Case, few_changes, plain_members, plain_power,
                           plain_row, plain_shown, some)

# On this machine rows of which the first two commands are exchanged agree at 2, but not all turned ones.
TURNED = Machine(2, [(0, 1), (3, 4), (1, 3), (1, 5), (5, 5), (5, 5)])
# On this machine some three tasks must be kept in order where it never matters which of two begins.
FEWER = Machine(3, [(1, 0, 0), (3, 2, 1), (3, 3, 3), (4, 3, 3), (4, 4, 4)])


def done(*changes):
    """All of the changes, one after another."""
    states = tuple(range(len(changes[0])))
    for change in changes:
        states = tuple(change[state] for state in states)
    return states


def plain_orders(machine, bound):
    """The counts below the bound at which any three shown changes do the same in all orders."""
    changes = plain_shown(machine)
    lots = {frozenset(done(*order) for order in permutations(lot)) for lot in product(changes, repeat=3)}
    return [n for n in range(bound) if all(len({plain_power(change, n) for change in lot}) == 1 for lot in lots)]


class Orders(Case):
    def test_against_all_orders_of_three(self):
        for machine in few_changes(53, 80, 14):
            row = orders(machine)
            self.assertIs(True, is_falling(row))
            self.told(plain_orders(machine, 20), plain_members(row, 19))
        self.told(plain_orders(FEWER, 9), plain_members(orders(FEWER), 8))

    def test_fewer_than_turns(self):
        self.told(((((2, 1),), 1), (((3, 1),), 1)), (turns(FEWER), orders(machine=FEWER)))
        for machine in few_changes(54, 60):
            self.assertTrue(set(plain_members(orders(machine), 60)) <= set(plain_members(turns(machine), 60)))

    def test_the_plain_ones(self):
        self.told((((), 6), ((), 1)), (orders(SIX), orders(IDLE)))
        self.told(((), 0), orders(Machine(2, [(0, 1), (0, 1)])))
        self.told(plain_orders(SHIFT, 9), plain_members(orders(SHIFT), 8))
        self.told([((), 50), ((), 1), ((), 0)], [orders(machine) for machine in HUNDRED])
        self.told(((), 1), orders(Machine(1, [(1,), (2,), (1,)])))

    def test_alike_rows_agree(self):
        for machine in (CHAIN, SIX, FEWER):
            counts = [n for n in plain_members(orders(machine), 8)]
            for row in product(range(machine.commands), repeat=4):
                for count in counts:
                    self.told(plain_row(machine, sorted(row), count), plain_row(machine, row, count))


class OrderFaults(Case):
    def check(self, machine, count):
        fault = order_fault(machine, count)
        self.assertIs(fault is None, has(orders(machine), count))
        if fault is not None:
            one, other, state = fault
            self.assertLessEqual(max(len(one), len(other)), len(shown(machine)) + 2)
            self.assertEqual(sorted(one), sorted(other))
            self.assertIs(True, is_order_fault(machine, count, fault))
        return fault

    def test_against_orders(self):
        for machine in list(few_changes(55, 80)) + [FEWER]:
            for count in range(12):
                fault = self.check(machine, count)
                if fault is not None:
                    one, other, state = fault
                    self.assertNotEqual(plain_row(machine, one, count)[state], plain_row(machine, other, count)[state])

    def test_where_no_turn_faults_are(self):
        self.assertTrue(has(turns(FEWER), 2))
        self.assertIsNotNone(order_fault(count=2, machine=FEWER))

    def test_where_just_turn_faults_are(self):
        for row in product(range(2), repeat=5):
            self.told(plain_row(TURNED, (0, 1) + row, 2), plain_row(TURNED, (1, 0) + row, 2))
        self.assertIsNotNone(self.check(TURNED, 2))
        self.told(plain_orders(TURNED, 9), plain_members(orders(TURNED), 8))

    def test_100_changes_and_30_digits(self):
        for machine in HUNDRED + (CHAIN, SIX, SHIFT, IDLE, FEWER):
            for count in (0, 1, LONG, LONG - LONG % 50, LONG - LONG % 50 + 25, 2 * 10 ** 29 + 1):
                self.check(machine, count)
            self.assertIsNone(order_fault(machine, 0))

    def test_all_short_rows(self):
        rows = [row for size in range(4) for row in product(range(2), repeat=size)]
        for machine in (CHAIN, SIX):
            for one, other in product(rows, rows):
                for count in (1, 2):
                    ends, others = plain_row(machine, one, count), plain_row(machine, other, count)
                    for state in range(machine.states):
                        wanted = sorted(one) == sorted(other) and ends[state] != others[state]
                        self.assertIs(wanted, is_order_fault(machine, count, (one, other, state)))

    def test_any_other_value(self):
        self.assertIs(True, is_order_fault(value=((0, 0, 1), (0, 1, 0), 0), count=1, machine=SIX))
        for value in (None, 7, (), [(0, 0, 1), (0, 1, 0), 0], ([0, 0, 1], (0, 1, 0), 0), ((0, 0, 1), [0, 1, 0], 0),
                      ((0, 0, 1), (0, 1, 0)), ((0, 0, 1), (0, 1, 0), 0, 0), ((0, 0, 1), (0, 1, 0), False), "001",
                      ((0, 0, 1), (0, 1, 0), 3), ((0, 0, 1), (0, 1, 0), -1), ((0, 0, True), (0, 1, 0), 0),
                      ((0, 0, 1), (False, 1, 0), 0), ((0, 0, 2), (0, 2, 0), 0), ((0, 0, 1), (0, 1, 1), 0),
                      ((0, 0, 1), (1,), 0), ((0, 0, 1), (0, 1), 0), ((0, 1.0), (1.0, 0), 0), ((0, "1"), ("1", 0), 0),
                      ((0, None), (None, 0), 0), (0, 1, 0), (None, None, 0), ((), (), 0), ((0, 1), (0, 1), 0)):
            self.assertIs(False, is_order_fault(SIX, 1, value), value)

    def test_long_rows_and_counts(self):
        self.assertIs(True, is_order_fault(SIX, LONG - 1, ((0,) * 500 + (1, 0), (0,) * 500 + (0, 1), 0)))
        self.assertIs(True, is_order_fault(SIX, 1, ((0, 1) * 500, (0,) * 500 + (1,) * 500, 0)))
        self.assertIs(False, is_order_fault(SIX, LONG - LONG % 6, ((0, 1) * 500, (0,) * 500 + (1,) * 500, 0)))
        self.assertIs(False, is_order_fault(SIX, LONG, ((0,) * 1000, (0,) * 999, 0)))


def moved(entries, told):
    """What the moves make of a tuple."""
    left = list(entries)
    for move in told:
        if move == 0:
            left = left[1:] + left[:1]
        else:
            left[0], left[1] = left[1], left[0]
    return tuple(left)


class Moves(Case):
    def check(self, one, other):
        told = moves(one, other)
        self.assertTrue(isinstance(told, tuple) and all(move in (0, 1) for move in told))
        self.assertFalse(any(isinstance(move, bool) for move in told))
        self.assertLessEqual(len(told), 2 * len(one) ** 2)
        self.assertEqual(other, moved(one, told))

    def test_all_short_ones(self):
        for size in range(6):
            for one in ((3, 1, 4, 1, 5)[:size], tuple(range(size)), (7,) * size):
                for other in permutations(one):
                    self.check(one, other)

    def test_60_numbers(self):
        numbers = some(56)
        for bound in (1, 2, 5, 60, LONG):
            one = tuple(numbers.randrange(bound) for _ in range(60))
            for other in (one, one[::-1], one[1:] + one[:1], one[-1:] + one[:-1], tuple(sorted(one))):
                self.check(one, other)
                self.check(other, one)
            self.check(one, tuple(numbers.sample(one, 60)))
        self.check(tuple(range(60)), tuple(range(59, -1, -1)))

    def test_none(self):
        for one, other in (((5, 7), (7, 7)), ((), (0,)), ((0,), ()), ((1, 2), (1, 2, 2)), ((1, 1, 2), (1, 2, 2)),
                           ((0,) * 60, (0,) * 59), ((3,), (4,)), ((1, 2, 3), (1, 2))):
            self.told(None, moves(one, other))

    def test_nothing_to_move(self):
        self.told((), moves(other=(), one=()))
        self.check((4,), (4,))
