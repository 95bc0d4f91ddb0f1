"""[19]: walks."""

from itertools import combinations, product

from bodyforbody.changes import change_of, followed, power
from bodyforbody.closing import closing
from bodyforbody.errors import InvalidQuestion, InvalidRow
from bodyforbody.falling import has
from bodyforbody.walks import both_loops, hanging, is_walk, walk
from tests.helpers import LONG, NO_COUNTS, SHIFT, Case, machines, plain_row, some

LOTS = [lot for size in range(4) for lot in combinations(range(1, 9), size)]


def plain_hanging(counts, count):
    found = {count}
    for _ in range(count + 1):
        found |= {p for p in range(count + 1) for q in found if p != q and abs(p - q) in counts}
    return tuple(sorted(found))


def plain_is_walk(counts, count, value):
    return (all(abs(x - y) in counts and x != y for x, y in zip(value, value[1:])) and value[0] == count
            and value[-1] == 0 and all(place <= count for place in value))


def plain_steps(counts, count):
    """How many positions the shortest walk has, `None` if there is none."""
    layer, positions = {count}, 1
    while positions <= count + 1:
        if 0 in layer:
            return positions
        layer = {p for p in range(count + 1) for q in layer if p != q and abs(p - q) in counts}
        positions += 1
    return None


class Walks(Case):
    def test_against_one_by_one(self):
        for lot in LOTS:
            for count in range(14):
                self.told(plain_hanging(lot, count), hanging(lot, count))
                value = walk(lot, count)
                self.assertIs(has(closing(lot), count), value is not None)
                self.assertEqual(plain_steps(lot, count), None if value is None else len(value))
                if value is not None:
                    self.assertTrue(plain_is_walk(lot, count, value))
                    self.assertIs(True, is_walk(list(lot), count, value))

    def test_all_small_values(self):
        for lot in ((), (0,), (1,), (2, 3), (0, 3, 2, 3), (1, 4)):
            for count in range(5):
                for size in range(1, 5):
                    for value in product(range(5), repeat=size):
                        self.assertIs(plain_is_walk(lot, count, value), is_walk(lot, count, value))

    def test_zero_and_no_counts(self):
        for counts in ((), [0], (5, 5, 0)):
            self.told(((0,), (0,)), (hanging(counts, 0), walk(counts, 0)))
            self.assertIs(True, is_walk(counts, 0, (0,)))
            self.assertIs(False, is_walk(counts, 0, (0, 0)))
            self.told((4,), hanging(counts, 4))
            self.assertIsNone(walk(counts, 4))
            self.assertIs(False, is_walk(counts, 4, (4, 0)))

    def test_up_to_60_and_counts_of_30_digits(self):
        counts = [LONG, 34, 55, 10 ** 29]
        places = hanging(counts, 60)
        self.told(plain_hanging(counts, 60), places)
        self.told((60, 5, 39, 0)[:1], walk((60, LONG), 60)[:1])
        self.told(tuple(range(61)), hanging((1, LONG), 60))
        self.told(tuple(range(60, -1, -1)), walk((1,), 60))
        self.told((60, 0), walk((1, 60), 60))
        self.assertIs(True, is_walk((1, LONG), 60, tuple(range(60, -1, -1))))

    def test_any_other_value(self):
        self.assertIs(True, is_walk((4, 5), 6, (6, 1, 5, 0)))
        self.assertIs(True, is_walk((4, 5), 6, (6, 2, 6, 1, 5, 0)))
        for value in (None, 6, (), [6, 1, 5, 0], (6, 1, 5), (1, 5, 0), (6, 0), (6, 1, 5, 0, 0), (6, 1, 1, 5, 0), "60",
                      (6, True, 5, 0), (6, 1, 5, False), (6, 1.0, 5, 0), (6, 1, 5, -0.0), (6, 1, -4, 0), (6, "1", 5, 0),
                      (6, 10, 5, 0), (6, (1,), 5, 0), (6, None), (0, 5, 1, 6), (5, 0), ((6, 1, 5, 0),), {6: 0}):
            self.assertIs(False, is_walk((4, 5), 6, value), value)

    def test_no_counts(self):
        for value in NO_COUNTS:
            self.refused(InvalidQuestion, 0, hanging, value, 5)
            self.refused(InvalidQuestion, 0, walk, value, 5)
            self.refused(InvalidQuestion, 0, is_walk, value, 5, None)

    def test_counts_are_not_changed(self):
        counts = [8, 0, 5, 8]
        places = hanging(counts, 9)
        walk(counts, 9)
        is_walk(counts, 9, (9, 0))
        self.told([8, 0, 5, 8], counts)
        counts.append(9)
        self.told((1, 4, 6, 9), places)

    def test_by_name(self):
        self.told((1, 4, 6, 9), hanging(count=9, counts=[5, 8]))
        self.told((6, 1, 5, 0), walk(count=6, counts=[4, 5]))
        self.told(True, is_walk(value=(5, 0), count=5, counts=[5]))


class BothLoops(Case):
    def test_against_one_by_one(self):
        numbers = some(18)
        for machine in machines(19, 40):
            for times in range(4):
                others = numbers.randint(0, 4)
                wanted = followed(plain_row(machine, (0,), times), plain_row(machine, (1, 0), others))
                self.told(wanted, both_loops(machine, (0,), (1, 0), times, others))

    def test_30_digits(self):
        first, second = change_of(SHIFT, (0,)), change_of(SHIFT, (1,))
        self.told(followed(power(first, LONG), power(second, 10 ** 29)), both_loops(SHIFT, (0,), (1,), LONG, 10 ** 29))
        self.told((0, 1, 2, 3), both_loops(SHIFT, (), (1,), LONG, 0))
        self.told((0, 0, 1, 2), both_loops(others=0, times=1, other=[1], one=[0], machine=SHIFT))

    def test_the_first_row_ahead_of_the_second(self):
        self.refused(InvalidRow, 1, both_loops, SHIFT, (0, 2), (2,), 1, 1)
        self.refused(InvalidRow, 0, both_loops, SHIFT, (0,), None, 1, 1)
        self.refused(InvalidRow, 2, both_loops, SHIFT, (0,), (0, 0, True), 1, 1)

    def test_a_walk_makes_them_agree(self):
        for counts, count in (((4, 5), 6), ((3, 5), 7), ((6, 4), 10)):
            for machine in machines(20, 120):
                first, second = change_of(machine, (0,)), change_of(machine, (1,))
                if all(power(first, n) == power(second, n) for n in counts):
                    ends = [both_loops(machine, (0,), (1,), j, count - j) for j in hanging(counts, count)]
                    self.assertEqual(1, len(set(ends)))
