"""[48]: several bodies, and which of them agree."""

from itertools import combinations

from bodyforbody.built import marked_machine, set_machine, side_by_side
from bodyforbody.changes import same_loops
from bodyforbody.court import agreeing
from bodyforbody.errors import InvalidQuestion, InvalidRow
from bodyforbody.falling import has, is_falling
from bodyforbody.groups import agreements, all_agree, groups, groups_on
from bodyforbody.machines import Machine
from tests.helpers import (LONG, NO_FALLINGS, NO_SEQUENCES, SHIFT, Case, low_rows, machines, plain_members, plain_row,
                           rings_machine, some, steep_row)

NO_ROWS = NO_SEQUENCES + ((2,), [0, 2], (-1,), (True,), [0, False], (0.0,), ("0",), ((0,),), (None,), (0, 10 ** 30))


def some_bodies(numbers, most=6):
    """Rows of two commands; some are lists, some are equal."""
    bodies = []
    for _ in range(numbers.randint(1, most)):
        row = [numbers.randrange(2) for _ in range(numbers.randrange(4))]
        bodies.append(row if numbers.randrange(2) else tuple(row))
    return bodies if numbers.randrange(2) else tuple(bodies)


def plain_groups(keys):
    """The indexes of equal keys in one tuple each."""
    firsts = [at for at, key in enumerate(keys) if key not in keys[:at]]
    return tuple(tuple(at for at, key in enumerate(keys) if key == keys[first]) for first in firsts)


class Groups(Case):
    def test_against_rows(self):
        numbers = some(81)
        for machine in machines(82, 120):
            bodies = some_bodies(numbers)
            for count in range(7):
                keys = [plain_row(machine, body, count) for body in bodies]
                self.told(plain_groups(keys), groups(machine, bodies, count))

    def test_one_and_twelve(self):
        for count in (0, 1, 3, LONG):
            self.told(((0,),), groups(SHIFT, [(0, 1)], count))
            self.told((tuple(range(12)),), groups(SHIFT, [[0]] * 12, count))
        rows = [(0,) * size for size in range(12)]
        self.told((tuple(range(12)),), groups(SHIFT, rows, 0))
        self.told(((0,), (1,), (2,), tuple(range(3, 12))), groups(SHIFT, rows, 1))
        self.told(((0,), (1,), tuple(range(2, 12))), groups(SHIFT, rows, 2))
        self.told(((0,), tuple(range(1, 12))), groups(count=LONG, bodies=tuple(rows), machine=SHIFT))
        # Somewhat beyond the limit.
        self.told((tuple(range(13)),), groups(SHIFT, ((0,),) * 13, 5))

    def test_30_digits(self):
        ring = rings_machine((7,), (1,) * 7)
        rows = [(0,) * size for size in range(9)]
        self.told(tuple((at, at + 7) if at < 2 else (at,) for at in range(7)), groups(ring, rows, LONG - 1))
        self.told(0, LONG % 7)
        self.told((tuple(range(9)),), groups(ring, rows, LONG))

    def test_refusals(self):
        for call, more in ((groups, (1,)), (groups_on, (((), 1),)), (agreements, ()), (all_agree, ())):
            for value in NO_SEQUENCES + ((), []):
                self.refused(InvalidQuestion, 1, call, SHIFT, value, *more)
            for value in NO_ROWS:
                self.refused(InvalidRow, 0, call, SHIFT, [value], *more)
                self.refused(InvalidRow, 2, call, SHIFT, ((0,), [], value, value), *more)
        self.refused(InvalidQuestion, 1, all_agree, machine=SHIFT, bodies=None)


class GroupsOn(Case):
    def test_against_many_counts(self):
        numbers = some(83)
        rows = low_rows(6) + low_rows(6, 2) + [((), 3), ((), 5), ((), 0)]
        for machine in machines(84, 80):
            bodies = some_bodies(numbers)
            row = numbers.choice(rows)
            counts = plain_members(row, 30)
            keys = [[plain_row(machine, body, count) for count in counts] for body in bodies]
            self.told(plain_groups(keys), groups_on(machine, bodies, row))

    def test_the_edges(self):
        rows = [(0,), (1,), (0, 0), (0,)]
        self.told(((0, 1, 2, 3),), groups_on(SHIFT, rows, ((), 0)))
        self.told(((0, 3), (1,), (2,)), groups_on(SHIFT, rows, ((), 1)))
        self.told(((0, 2, 3), (1,)), groups_on(SHIFT, rows, (((3, 1),), 1)))
        self.told(((0, 2, 3), (1,)), groups_on(falling=((), LONG), bodies=rows, machine=SHIFT))
        self.told(((0,),), groups_on(SHIFT, [()], ((), 0)))
        row = steep_row(85, 300)
        self.assertIs(True, is_falling(row))
        self.told(((0, 2, 3), (1,)), groups_on(SHIFT, rows, row))
        ring = rings_machine((7,), (1,) * 7)
        self.told(((0, 1, 2),), groups_on(ring, [(0,), (1,), (0, 0)], (((7 * 10 ** 28, 5),), 7)))

    def test_refusals(self):
        self.refused(InvalidRow, 1, groups_on, SHIFT, [(0,), (5,)], None)
        for value in NO_FALLINGS:
            self.refused(InvalidQuestion, 2, groups_on, SHIFT, [(0,)], value)


class Agreements(Case):
    def test_against_agreeing(self):
        numbers = some(86)
        for machine in machines(87, 60):
            bodies = some_bodies(numbers)
            wanted = tuple((i, j, agreeing(machine, bodies[i], bodies[j])) for i, j in combinations(range(len(bodies)), 2))
            self.told(wanted, agreements(machine, bodies))

    def test_one_and_twelve(self):
        self.told((), agreements(SHIFT, [(0,)]))
        told = agreements(machine=SHIFT, bodies=[(0,)] * 11 + [(1,)])
        self.told(66, len(told))
        self.told(tuple(sorted(told)), told)
        self.told(((0, 1, ((), 1)), (10, 11, agreeing(SHIFT, (0,), (1,)))), (told[0], told[-1]))


class AllAgree(Case):
    def test_against_same_loops(self):
        numbers = some(88)
        for machine in machines(89, 150):
            bodies = some_bodies(numbers)
            row = all_agree(machine, bodies)
            self.assertIs(True, is_falling(row))
            for count in range(20):
                wanted = all(same_loops(machine, bodies[0], body, count) for body in bodies)
                self.assertIs(wanted, has(row, count))

    def test_the_edges(self):
        self.told((((), 1), ((), 1)), (all_agree(SHIFT, [(0, 1)]), all_agree(SHIFT, [[1]] * 12)))
        self.told(((), 0), all_agree(SHIFT, [(0,), (1,), ()]))
        six = Machine(3, list(zip(*[[1, 0, 2, 3, 4], [0, 1, 3, 4, 2], [0, 1, 2, 3, 4]])))
        self.told((((), 2), ((), 3), ((), 6)),
                  tuple(all_agree(six, bodies) for bodies in (((0,), (2,)), ((1,), (2,)), [(0,), (1,), (2,)])))
        # Two bodies agree from 4 on, the others at the multiples of 3 only.
        both = side_by_side([set_machine((((4, 1),), 1)), set_machine(((), 3))])
        self.told((((6, 1),), 3), all_agree(both, [(0,), (1,)]))
        self.told((((5, 1), (3, 1), (2, 1)), 1), all_agree(machine=marked_machine((1, 4, 6, 9)), bodies=((0,), (1,), [1])))

    def test_great_rings(self):
        big = rings_machine((3, 4, 5, 7, 9, 11), (13, 17) + (1,) * 9)
        self.told(((), 4 * 9 * 5 * 7 * 11 * 13 * 17), all_agree(big, [(0,), (1,), ()]))
