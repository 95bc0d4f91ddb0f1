"""[49]: which of the bodies that agree costs least."""

from bodyforbody.built import set_machine, side_by_side
from bodyforbody.changes import same_loops
from bodyforbody.costs import cheapest, ever_cheapest
from bodyforbody.errors import InvalidQuestion, InvalidRow
from bodyforbody.falling import has
from bodyforbody.machines import Machine
from tests.helpers import (LONG, NO_NUMBERS, NO_SEQUENCES, SHIFT, Case, low_rows, machines, some)

NO_COSTS = NO_SEQUENCES + ((), [], (1,), (1, 2, 3), (1, True), [False, 1], (1, -1), (1, 1.0), ("1", 2), (1, None), ((1,), 2))


def plain_cheapest(machine, bodies, costs, at, count):
    agreed = [index for index, body in enumerate(bodies) if same_loops(machine, bodies[at], body, count)]
    return [index for index in agreed if costs[index] == min(costs[each] for each in agreed)][0]


def some_question(numbers):
    bodies = [tuple(numbers.randrange(2) for _ in range(numbers.randrange(4))) for _ in range(numbers.randint(1, 6))]
    return bodies, [numbers.randrange(4) for _ in bodies], numbers.randrange(len(bodies))


class Cheapest(Case):
    def test_against_same_loops(self):
        numbers = some(91)
        for machine in machines(92, 120):
            bodies, costs, at = some_question(numbers)
            for count in range(8):
                self.told(plain_cheapest(machine, bodies, costs, at, count), cheapest(machine, bodies, costs, at, count))

    def test_the_edges(self):
        rows = [(0,) * size for size in range(12)]
        self.told((3, 0), (cheapest(SHIFT, rows, (5,) * 12, 7, 1), cheapest(SHIFT, rows, (5,) * 12, 7, 0)))
        self.told((1, 2), (cheapest(SHIFT, rows, (5,) * 12, 11, LONG), cheapest(SHIFT, rows, (5,) * 12, 2, 2)))
        self.told(11, cheapest(SHIFT, rows, [LONG - at for at in range(12)], 3, 1))
        self.told(0, cheapest(SHIFT, [(1,)], [0], 0, LONG))
        self.told(0, cheapest(count=2, at=0, costs=(LONG, LONG - 1), bodies=[(0,), (0, 0)], machine=SHIFT))
        self.told(1, cheapest(SHIFT, [(0,), (0, 0)], (LONG, LONG - 1), 0, 3))

    def test_refusals(self):
        for call, more in ((cheapest, (1,)), (ever_cheapest, ())):
            self.refused(InvalidQuestion, 1, call, SHIFT, [], None, None, *more)
            self.refused(InvalidQuestion, 1, call, SHIFT, None, None, None, *more)
            self.refused(InvalidRow, 1, call, SHIFT, [(0,), (0, 3)], None, None, *more)
            self.refused(InvalidQuestion, 2, call, SHIFT, [(0,), (1,)], None, None, *more)
            for value in NO_COSTS:
                self.refused(InvalidQuestion, 2, call, SHIFT, [(0,), (1,)], value, 0, *more)
                self.refused(InvalidQuestion, 2, call, SHIFT, [(0,), (1,)], value, None, *more)
            for value in NO_NUMBERS + (2, LONG):
                self.refused(InvalidQuestion, 3, call, SHIFT, [(0,), (1,)], [1, 2], value, *more)


class EverCheapest(Case):
    def test_against_many_counts(self):
        numbers = some(93)
        for machine in machines(94, 150):
            bodies, costs, at = some_question(numbers)
            firsts = {}
            for count in range(1, 150):
                firsts.setdefault(plain_cheapest(machine, bodies, costs, at, count), count)
            self.told(tuple(sorted(firsts.items())), ever_cheapest(machine, bodies, costs, at))

    def test_sets_side_by_side(self):
        # Command 0 agrees with the others at sets of many kinds; the later ones cost less.
        numbers = some(95)
        rows = low_rows(8) + low_rows(8, 2) + [((), 3), ((), 4), ((), 5), ((), 0), (((9, 1),), 3)]
        for _ in range(60):
            sets = [numbers.choice(rows) for _ in range(4)]
            parts = []
            for place, row in enumerate(sets):
                steps = set_machine(row).steps
                parts.append(Machine(5, [[entry[0]] * (place + 1) + [entry[1]] + [entry[0]] * (3 - place)
                                         for entry in steps]))
            machine = side_by_side(parts)
            bodies, costs = [(at,) for at in range(5)], [9, 4, 3, 2, 1]
            firsts = {}
            for count in range(1, 200):
                firsts.setdefault(max([0] + [at + 1 for at in range(4) if has(sets[at], count)]), count)
            self.told(tuple(sorted(firsts.items())), ever_cheapest(machine, bodies, costs, 0))

    def test_counts_that_the_reach_has_passed(self):
        turns = (2, 3, 5, 7)
        columns = []
        for length in (1,) + turns:
            columns.append([state if turn != length else base + (state - base + 1) % turn
                            for turn, base in zip(turns, (0, 2, 5, 10)) for state in range(base, base + turn)])
        machine = Machine(5, list(zip(*columns)))
        bodies = [(0,), (1,), (2,), (3,), (4,)]
        # The cheaper a body is, the rarer; body 0 does nothing, the others agree with it at the multiples of a prime.
        self.told(((0, 1), (1, 2), (2, 3), (3, 5), (4, 7)), ever_cheapest(machine, bodies, [5, 4, 3, 2, 1], 0))
        # Body 2 is the cheapest one for itself at all counts but those of body 4.
        self.told(((2, 1), (4, 21)), ever_cheapest(machine, bodies, [9, 9, 2, 9, 1], 2))
        self.told(((1, 1), (4, 14)), ever_cheapest(machine, bodies, [5, 2, 3, 4, 1], 1))

    def test_one_that_is_never_wanted(self):
        self.told(((0, 1),), ever_cheapest(SHIFT, [(0,), (0, 0)], [1, 2], 0))
        self.told(((0, 1),), ever_cheapest(SHIFT, [(0,), (0,)], [2, 2], 1))
        self.told(((1, 1),), ever_cheapest(SHIFT, [(0,), (0,)], [2, 1], 0))
        self.told(((0, 1),), ever_cheapest(SHIFT, [(1,), ()], [1, 0], 0))
        self.told(((2, 1),), ever_cheapest(SHIFT, [(0,), (0, 0), (0,)], (3, 2, 1), 2))
        # What agrees only where a cheaper one does.
        self.told(((0, 1), (2, 2)), ever_cheapest(SHIFT, [(0, 0), (0,), (0, 0, 0)], (3, 2, 1), 0))

    def test_equal_and_great_costs(self):
        self.told(((0, 3), (1, 1)), ever_cheapest(SHIFT, [(0, 0), (0,)], [LONG, LONG], 1))
        self.told(((0, 1), (1, 3)), ever_cheapest(at=0, costs=(LONG, LONG - 1), bodies=[(0, 0), (0,)], machine=SHIFT))
        self.told(((0, 1),), ever_cheapest(SHIFT, [(1,)], [0], 0))

    def test_twelve_bodies(self):
        rows = [(0,) * size for size in range(12)]
        self.told(((1, 1), (2, 3)), ever_cheapest(SHIFT, rows, [0, 9, 1, 2, 3, 4, 5, 6, 7, 8, 9, 9], 1))
        self.told(((2, 2), (5, 1)), ever_cheapest(SHIFT, rows, [0, 9, 1, 3, 3, 2, 5, 6, 7, 8, 9, 9], 5))
