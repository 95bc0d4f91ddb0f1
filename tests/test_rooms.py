"""[36], and `crossed` of [39]: rooms and views."""

from itertools import combinations, product

from bodyforbody.errors import InvalidChange, InvalidQuestion, InvalidRow
from bodyforbody.machines import Machine
from bodyforbody.rooms import crossed, holds_room, holds_view, least_room, least_view
from bodyforbody.rounds import breach
from bodyforbody.seen import seen_round
from tests.helpers import NO_ROOMS, NO_VIEWS, SHIFT, Case, machines, plain_row, some

ROWS = ((), (0,), (1,), (0, 1), (1, 1, 0))


def rooms_of(states):
    return [room for size in range(1, states + 1) for room in combinations(range(states), size)]


def views_of(states):
    """All views in which each colour is the least state with it."""
    views = product(*[range(state + 1) for state in range(states)])
    return [view for view in views if all(view[colour] == colour for colour in view)]


def plain_holds_room(change, room):
    return {change[state] for state in room} <= set(room)


def plain_holds_view(change, view):
    states = range(len(view))
    return all(view[change[x]] == view[change[y]] for x in states for y in states if view[x] == view[y])


def is_finer(view, coarse):
    """Whether unlike colours of the second view are unlike in the first one."""
    return all(view[x] != view[y] or coarse[x] == coarse[y] for x in range(len(view)) for y in range(len(view)))


class Rooms(Case):
    def test_against_all_rooms(self):
        for at, machine in enumerate(machines(64, 50, 6)):
            row = ROWS[at % len(ROWS)]
            change = plain_row(machine, row)
            held = [room for room in rooms_of(machine.states) if plain_holds_room(change, room)]
            for room in rooms_of(machine.states):
                self.assertIs(room in held, holds_room(machine, room, row))
                wanted = min((each for each in held if set(room) <= set(each)), key=len)
                self.told(wanted, least_room(machine, room, list(row)))

    def test_one_state_and_all(self):
        self.told((((0, 1, 2), (3,), (0, 1, 2, 3))),
                  (least_room(SHIFT, (2,), (0,)), least_room(SHIFT, (3,), ()), least_room(SHIFT, (3,), (0,))))
        for row in ROWS:
            self.told((True, (0, 1, 2, 3)),
                      (holds_room(SHIFT, (0, 1, 2, 3), row), least_room(SHIFT, (0, 1, 2, 3), row)))
        chain = Machine(1, [(max(state - 1, 0),) for state in range(40)])
        self.told(tuple(range(40)), least_room(row=[0], room=(39,), machine=chain))
        self.assertIs(True, holds_room(row=[0], room=(0, 1), machine=chain))
        self.assertIs(False, holds_room(chain, (1, 2), (0,)))

    def test_the_order_of_refusals(self):
        for call in (holds_room, least_room):
            for value in NO_ROOMS:
                self.refused(InvalidQuestion, 1, call, SHIFT, value, (0, 2))
                self.refused(InvalidQuestion, 1, call, SHIFT, value, (0,))
            self.refused(InvalidRow, 1, call, SHIFT, (0, 2), (0, 2))
            self.refused(InvalidRow, 0, call, SHIFT, (0, 2), None)
            self.refused(InvalidRow, 2, call, SHIFT, (0, 2), [0, 1, True])


class Views(Case):
    def test_against_all_views(self):
        for at, machine in enumerate(machines(65, 60, 5)):
            row = ROWS[at % len(ROWS)]
            change = plain_row(machine, row)
            held = [view for view in views_of(machine.states) if plain_holds_view(change, view)]
            for view in views_of(machine.states):
                self.assertIs(view in held, holds_view(machine, view, row))
                finer = [each for each in held if is_finer(each, view)]
                wanted = min(finer, key=lambda each: len(set(each)))
                self.told(wanted, least_view(machine, view, list(row)))

    def test_colours_may_be_any_states(self):
        numbers = some(66)
        for machine in machines(67, 60, 6):
            names = numbers.sample(range(machine.states), machine.states)
            for view in numbers.sample(views_of(machine.states), 2 if machine.states > 1 else 1):
                other = tuple(names[colour] for colour in view)
                self.told(holds_view(machine, view, (0,)), holds_view(machine, other, (0,)))
                self.told(least_view(machine, view, (0,)), least_view(machine, other, (0,)))

    def test_one_colour_and_all_unlike(self):
        for row in ROWS:
            for colour in range(4):
                self.told((True, (0, 0, 0, 0)),
                          (holds_view(SHIFT, (colour,) * 4, row), least_view(SHIFT, (colour,) * 4, row)))
            self.told((True, (0, 1, 2, 3)),
                      (holds_view(SHIFT, (3, 1, 0, 2), row), least_view(SHIFT, (3, 1, 0, 2), row)))
        self.told((False, (0, 0, 2, 3)), (holds_view(SHIFT, (0, 0, 1, 1), (0,)), least_view(SHIFT, (3, 3, 2, 2), (0,))))
        chain = Machine(1, [(max(state - 1, 0),) for state in range(40)])
        self.told((0,) * 39 + (39,), least_view(chain, (5,) * 39 + (7,), (0,)))
        self.told(tuple(range(40)), least_view(row=(0,), view=(7,) + (5,) * 39, machine=chain))

    def test_the_order_of_refusals(self):
        for call in (holds_view, least_view):
            for value in NO_VIEWS:
                self.refused(InvalidChange, 0, call, SHIFT, value, (0, 2))
                self.refused(InvalidChange, 0, call, SHIFT, value, (0,))
            self.refused(InvalidRow, 1, call, SHIFT, (0, 0, 1, 1), (0, 2))
            self.refused(InvalidRow, 0, call, SHIFT, (0, 0, 1, 1), "0")


class Crossed(Case):
    def test_against_what_is_held(self):
        numbers = some(68)
        for machine in machines(69, 60, 5):
            one, other = numbers.choice(ROWS), numbers.choice(ROWS)
            first, second = plain_row(machine, one), plain_row(machine, other)
            for room in rooms_of(machine.states):
                view = numbers.choice(views_of(machine.states))
                wanted = (plain_holds_room(first, room) and plain_holds_view(second, view)
                          or plain_holds_room(second, room) and plain_holds_view(first, view))
                self.assertIs(wanted, crossed(machine, room, view, one, other))
                self.assertIs(wanted, crossed(machine, room, view, other, one))
                if wanted:
                    self.assertIsNone(breach(seen_round(machine, room, view, one, other)))

    def test_one_row_that_holds_both_is_not_enough(self):
        machine = Machine(2, [(0, 1), (1, 2), (2, 2)])
        self.assertIs(False, crossed(machine, (0,), (0, 1, 0), (0,), (1,)))
        self.assertIs(True, crossed(other=(1,), one=(0,), view=(0, 1, 2), room=(0,), machine=machine))
        self.assertIs(True, crossed(machine, (0, 1, 2), (0, 1, 0), (0,), (1,)))
        self.assertIs(True, crossed(machine, (0,), (0, 1, 0), (0,), (0,)))

    def test_the_order_of_refusals(self):
        for value in NO_ROOMS:
            self.refused(InvalidQuestion, 1, crossed, SHIFT, value, None, (2,), (2,))
        for value in NO_VIEWS:
            self.refused(InvalidChange, 0, crossed, SHIFT, (0,), value, (2,), (2,))
        self.refused(InvalidRow, 1, crossed, SHIFT, (0,), (0, 1, 2, 3), (0, 2), (2,))
        self.refused(InvalidRow, 2, crossed, SHIFT, (0,), (0, 1, 2, 3), (0,), (0, 0, 2))
