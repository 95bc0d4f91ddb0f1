"""[37], and `shown` of [39]: counts at which two rows are seen alike."""

from itertools import combinations

from bodyforbody.changes import change_of, loses
from bodyforbody.errors import InvalidChange, InvalidQuestion, InvalidRow
from bodyforbody.machines import Machine
from bodyforbody.rooms import holds_room, holds_view
from bodyforbody.rounds import tidy
from bodyforbody.seen import seen_alike, seen_round, shown
from tests.helpers import (LONG, NO_NUMBERS, NO_ROOMS, NO_ROUNDS, NO_VIEWS, SHIFT, Case, machines, plain_row,
                           rings_machine, some)

ROWS = (((0,), (1,)), ((0, 1), (1, 0)), ((), (0,)), ((1, 1), (0,)), ((0,), (0,)))


def questions(seed, many, most):
    """Machines, rooms, views and two rows."""
    numbers = some(seed)
    for machine in machines(seed + 1, many, most):
        size = numbers.randint(1, machine.states)
        room = tuple(sorted(numbers.sample(range(machine.states), size)))
        colours = numbers.randint(1, machine.states)
        view = tuple(numbers.randrange(colours) for _ in range(machine.states))
        yield (machine, room, view) + numbers.choice(ROWS)


def plain_seen(machine, room, view, one, other, bound):
    """The counts below the bound at which both rows lead each state of the room to equal colours."""
    places, others = list(room), list(room)
    first, second = plain_row(machine, one), plain_row(machine, other)
    found = []
    for count in range(bound):
        if all(view[place] == view[end] for place, end in zip(places, others)):
            found.append(count)
        places, others = [first[place] for place in places], [second[place] for place in others]
    return found


def numbers_of(value, bound):
    start, ring, counts = value
    return [n for n in range(bound) if (n if n < start else start + (n - start) % ring) in counts]


class SeenAlike(Case):
    def test_against_one_by_one(self):
        for machine, room, view, one, other in questions(72, 120, 9):
            wanted = plain_seen(machine, room, view, one, other, 25)
            self.told(wanted, [n for n in range(25) if seen_alike(machine, room, view, one, other, n)])

    def test_rows_are_kept(self):
        one, other = [0, 1], [1]
        seen_alike(SHIFT, (2,), (0, 1, 2, 3), one, other, 3)
        told = seen_round(SHIFT, (2,), (0, 1, 2, 3), one, other)
        self.told(([0, 1], [1]), (one, other))
        one.append(0)
        self.told(told, seen_round(SHIFT, (2,), (0, 1, 2, 3), (0, 1), (1,)))

    def test_30_digits(self):
        machine = rings_machine((7, 3), (1,) * 10)
        room, view = (0, 7), tuple(range(10))
        self.assertIs(True, seen_alike(machine, room, view, (0,), (1,), LONG - LONG % 21))
        self.assertIs(False, seen_alike(machine, room, view, (0,), (1,), LONG - LONG % 21 + 7))
        self.assertIs(True, seen_alike(machine, room, (0,) * 7 + (7, 8, 9), (0,), (1,), LONG - LONG % 3))
        self.assertIs(True, seen_alike(count=LONG, other=[1], one=[0], view=(3,) * 10, room=room, machine=machine))
        self.assertIs(True, seen_alike(machine, room, view, (0,), (1,), 0))

    def test_a_room_of_40_states(self):
        machine = rings_machine((5, 7, 9, 11, 8), (1,) * 40)
        states = tuple(range(40))
        self.assertIs(True, seen_alike(machine, states, states, (0,), (1,), 27720 * 10 ** 25))
        self.assertIs(False, seen_alike(machine, states, states, (0,), (1,), 27720 * 10 ** 25 + 3465))


class SeenRounds(Case):
    def check(self, machine, room, view, one, other, bound):
        value = seen_round(machine, room, view, one, other)
        self.told(tidy(value), value)
        self.told(plain_seen(machine, room, view, one, other, bound), numbers_of(value, bound))

    def test_against_one_by_one(self):
        for machine, room, view, one, other in questions(74, 250, 10):
            self.check(machine, room, view, one, other, 150)

    def test_10_states_with_unlike_rings(self):
        for one, other in (((5, 3, 2), (7, 3)), ((5, 4, 1), (7, 3)), ((9, 1), (7, 2, 1)), ((10,), (3, 3, 4))):
            machine = rings_machine(one, other)
            for view in (tuple(range(10)), (0, 1) * 5, (0,) * 9 + (1,), (4,) * 10):
                for room in (tuple(range(10)), (0,), (2, 9)):
                    self.check(machine, room, view, (0,), (1,), 1300)

    def test_rooms_of_one_state(self):
        numbers = some(76)
        rings = [rings_machine((37, 3), (40,)), rings_machine((5, 7, 9, 11, 8), (39, 1))]
        for machine in list(machines(77, 30, 40)) + rings:
            states = machine.states
            two = min(2, states)
            mixed = [numbers.randrange(states) for _ in range(states)]
            for view in (mixed, [at % two for at in range(states)], range(states)):
                self.check(machine, (numbers.randrange(states),), tuple(view), (0,), (1,), 1700)

    def test_a_tail_and_a_ring_of_40_states(self):
        steps = [(min(at + 1, 39), at + 1 if at < 39 else 20) for at in range(40)]
        self.check(Machine(2, steps), (0,), tuple(range(40)), (0,), (1,), 300)
        self.told((0, 1, (0,)), seen_round(Machine(2, steps), (0,), (7,) * 40, (0,), (1,)))
        self.told((39, 20, tuple(range(40))),
                  seen_round(other=[1], one=[0], view=tuple(range(40)), room=(0,), machine=Machine(2, steps)))

    def test_the_order_of_refusals(self):
        for call, more in ((seen_alike, (3,)), (seen_round, ())):
            for value in NO_ROOMS:
                self.refused(InvalidQuestion, 1, call, SHIFT, value, None, (2,), (2,), *more)
            for value in NO_VIEWS:
                self.refused(InvalidChange, 0, call, SHIFT, (0,), value, (2,), (2,), *more)
            self.refused(InvalidRow, 1, call, SHIFT, (0,), (0, 1, 2, 3), (0, 2), (2,), *more)
            self.refused(InvalidRow, 2, call, SHIFT, (0,), (0, 1, 2, 3), (0,), (0, 0, 2), *more)
            self.refused(InvalidRow, 0, call, SHIFT, (0,), (0, 1, 2, 3), None, (2,), *more)


def rounds_with_zero(seed, many):
    """All short rounds with 0, and some longer ones."""
    for total in range(1, 7):
        for start in range(total):
            for size in range(total):
                for counts in combinations(range(1, total), size):
                    yield start, total - start, (0,) + counts
    numbers = some(seed)
    for _ in range(many):
        total = numbers.choice((20, 20, 19, 12))
        start = numbers.choice((0, numbers.randrange(total), total - 1))
        some_counts = numbers.sample(range(1, total), numbers.randrange(total))
        yield start, total - start, (0,) + tuple(sorted(some_counts))
    for start in range(20):
        yield start, 20 - start, (0,)
        yield start, 20 - start, tuple(range(20))


class Shown(Case):
    def check(self, value, kind):
        told = shown(value, kind)
        self.assertTrue(isinstance(told, tuple) and len(told) == 3)
        machine, room, view = told
        self.assertIsInstance(machine, Machine)
        self.told((2, True), (machine.commands, machine.states <= 40))
        self.told(numbers_of(value, 70), plain_seen(machine, room, view, (0,), (1,), 70))
        self.told(tidy(value), seen_round(machine, room, view, (0,), (1,)))
        return machine, room, view

    def test_from_one_state(self):
        for value in rounds_with_zero(78, 60):
            machine, room, view = self.check(value, 0)
            self.told((1, machine.states), (len(room), len(set(view))))
            if value[0] == 0:
                self.assertFalse(any(loses(change_of(machine, (command,))) for command in (0, 1)))

    def test_from_all_states(self):
        for value in rounds_with_zero(79, 60):
            machine, room, _ = self.check(value, 1)
            self.told(tuple(range(machine.states)), room)

    def test_one_row_holds_both(self):
        for value in rounds_with_zero(80, 60):
            machine, room, view = self.check(value, 2)
            self.assertTrue(holds_room(machine, room, (0,)) and holds_view(machine, view, (0,)))

    def test_by_name_and_again(self):
        for kind in range(3):
            self.assertEqual(shown((2, 1, (0, 1)), kind), shown(kind=kind, value=(2, 1, (0, 1))))

    def test_the_order_of_refusals(self):
        for value in NO_ROUNDS + ((0, 21, (0,)), (20, 1, (0,)), (1, 20, (0,)), (0, 1, ()), (0, 4, (1, 2)), (5, 5, (9,)),
                                  (LONG, LONG, (0,)), (0, LONG, (0,))):
            for kind in (0, 1, 2, 3, None, True):
                self.refused(InvalidQuestion, 0, shown, value, kind)
        for kind in (3, 10 ** 30, [0], (0,), {}) + NO_NUMBERS:
            self.refused(InvalidQuestion, 1, shown, (0, 1, (0,)), kind)
