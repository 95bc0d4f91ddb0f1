"""[6] to [8]: changes, powers, loops."""

from math import lcm

from bodyforbody.changes import (change_of, checked_change, followed, least_count, loop_end, loses, power, ring,
                                 same_loops, tail)
from bodyforbody.errors import InvalidChange, InvalidRow, Refused
from bodyforbody.machines import Machine
from tests.helpers import LONG, NO_NUMBERS, NO_SEQUENCES, SHIFT, Case, machines, plain_power, plain_row, some

NO_CHANGES = NO_SEQUENCES + ((), [0], [0, 1], (1,), (0, 2), (0, -1), (False,), (0, True), ("0",), (None, 0), (0.0,))
RINGS = (1, 2, 0, 4, 3, 6, 7, 8, 9, 5)


def changes(seed, many, most=8):
    numbers = some(seed)
    for _ in range(many):
        states = numbers.randint(1, most)
        yield tuple(numbers.randrange(states) for _ in range(states))


def plain_tail_and_ring(change):
    seen = {}
    place = tuple(range(len(change)))
    while place not in seen:
        seen[place] = len(seen)
        place = tuple(change[state] for state in place)
    return seen[place], len(seen) - seen[place]


class Changes(Case):
    def test_change_of(self):
        self.told((0, 0, 1, 2), change_of(SHIFT, (0,)))
        self.told((0, 0, 1, 1), change_of(SHIFT, [0, 1]))
        self.told((0, 0, 0, 0), change_of(SHIFT, [1, 0]))
        self.told((0, 1, 2, 3), change_of(SHIFT, ()))
        numbers = some(1)
        for machine in machines(2, 50):
            row = [numbers.randrange(2) for _ in range(numbers.randint(0, 9))]
            self.told(plain_row(machine, row), change_of(machine, row))

    def test_wrong_rows(self):
        self.refused(InvalidRow, 1, change_of, SHIFT, (0, 2))
        self.refused(InvalidRow, 0, change_of, SHIFT, (True,))
        self.refused(InvalidRow, 0, change_of, SHIFT, "0")

    def test_checked_change(self):
        told = (1, 1, 0)
        self.assertIs(told, checked_change(3, told))
        self.told((0,), checked_change(states=1, value=(0,)))
        for value in NO_CHANGES + ((1, 1), (1, 1, 3), (1, 1, 0, 0), [1, 1, 0], (1, 1, True)):
            self.refused(InvalidChange, 0, checked_change, 3, value)

    def test_followed(self):
        self.told((2, 0, 0), followed((1, 2, 2), (1, 2, 0)))
        self.told((2, 0, 0), followed(other=(1, 2, 0), one=(1, 2, 2)))
        self.told((1, 0, 0), followed((1, 2, 2), (0, 1, 0)))
        for value in NO_CHANGES:
            self.refused(InvalidChange, 0, followed, value, (0,))
            self.refused(InvalidChange, 0, followed, (0,), value)
        self.refused(InvalidChange, 0, followed, (0, 1), (0,))
        self.refused(InvalidChange, 0, followed, (0,), (0, 1))

    def test_loses(self):
        for change in ((0,), (1, 0), (1, 2, 0)):
            self.assertIs(False, loses(change))
        for change in ((0, 0), (1, 1, 0), (0, 1, 1)):
            self.assertIs(True, loses(change=change))

    def test_no_change_is_refused_by_all(self):
        for value in NO_CHANGES:
            for call in (loses, tail, ring):
                self.refused(InvalidChange, 0, call, value)
            for call in (power, least_count):
                self.refused(InvalidChange, 0, call, value, 1)


class Powers(Case):
    def test_against_one_by_one(self):
        for change in changes(3, 80):
            before, again = plain_tail_and_ring(change)
            self.told((before, again), (tail(change), ring(change)))
            for count in range(before + 2 * again + 3):
                self.told(plain_power(change, count), power(change, count))
                least = min(n for n in range(count + 1) if plain_power(change, n) == plain_power(change, count))
                self.told(least, least_count(change, count))

    def test_of_one_state(self):
        self.told((0, 1, (0,), 0), (tail((0,)), ring((0,)), power((0,), LONG), least_count((0,), LONG)))

    def test_by_name(self):
        self.told((2, 0, 1), power(count=2, change=(1, 2, 0)))
        self.told((0, 3, 2), (tail(change=(1, 2, 0)), ring(change=(1, 2, 0)), least_count(change=(1, 2, 0), count=5)))

    def test_counts_of_30_digits(self):
        self.told(30, ring(RINGS))
        for count in (LONG, LONG - 17, 10 ** 29):
            self.told(plain_power(RINGS, count % 30), power(RINGS, count))
            self.told(count % 30, least_count(RINGS, count))
        chain = tuple(max(state - 1, 0) for state in range(40))
        self.told((39, 1, 39, 38), (tail(chain), ring(chain), least_count(chain, LONG), least_count(chain, 38)))
        self.told((0,) * 40, power(chain, LONG))

    def test_40_states_with_a_great_ring(self):
        change = []
        for length in (3, 4, 5, 7, 8, 13):
            base = len(change)
            change.extend([base + (at + 1) % length for at in range(length)])
        self.told((0, lcm(3, 5, 7, 8, 13)), (tail(tuple(change)), ring(tuple(change))))
        self.told(10 ** 29 % 10920, least_count(tuple(change), 10 ** 29))


class Loops(Case):
    def test_against_one_by_one(self):
        numbers = some(4)
        for machine in machines(5, 60):
            one, other = ([numbers.randrange(2) for _ in range(numbers.randint(0, 4))] for _ in range(2))
            for count in range(9):
                ends = plain_row(machine, one, count)
                self.told(ends, tuple(loop_end(machine, state, one, count) for state in range(machine.states)))
                self.assertIs(ends == plain_row(machine, other, count), same_loops(machine, one, other, count))

    def test_no_rounds_and_the_empty_row(self):
        self.assertIs(True, same_loops(SHIFT, (0,), (1, 1), 0))
        self.assertIs(True, same_loops(SHIFT, (), (), LONG))
        self.told((3, 3), (loop_end(SHIFT, 3, (0,), 0), loop_end(SHIFT, 3, [], LONG)))

    def test_long_counts(self):
        three = Machine(1, [(1,), (2,), (0,)])
        self.told(LONG % 3, loop_end(three, 0, (0,), LONG))
        self.assertIs(True, same_loops(three, (0, 0), (0, 0, 0, 0, 0), LONG))
        self.assertIs(False, same_loops(three, (0, 0), (0,), LONG - 1))
        self.told(999 % 3, loop_end(three, 0, [0] * 999, 1))

    def test_by_name(self):
        self.told(1, loop_end(count=2, row=(0,), state=3, machine=SHIFT))
        self.assertIs(True, same_loops(count=3, other=[0, 0], one=[0], machine=SHIFT))

    def test_wrong_states_ahead_of_rows(self):
        for state in NO_NUMBERS + (4,):
            self.refused(Refused, 0, loop_end, SHIFT, state, (9,), 1)
            self.refused(Refused, 0, loop_end, SHIFT, state, (0,), 1)
        self.refused(InvalidRow, 1, loop_end, SHIFT, 0, (0, True), 1)

    def test_the_first_row_ahead_of_the_second(self):
        self.refused(InvalidRow, 2, same_loops, SHIFT, (0, 0, 2), (2,), 1)
        self.refused(InvalidRow, 1, same_loops, SHIFT, (0,), (0, -1), 1)
        self.refused(InvalidRow, 0, same_loops, SHIFT, None, (0, 0, 5), 1)
