"""[17]: papers."""

from itertools import combinations

from bodyforbody.changes import change_of, ring, same_loops
from bodyforbody.closing import tellers
from bodyforbody.court import agreeing, reach
from bodyforbody.errors import InvalidRow
from bodyforbody.falling import has
from bodyforbody.machines import Machine
from bodyforbody.papers import court_paper, is_court_paper
from tests.helpers import LONG, NO_FALLINGS, SHIFT, Case, plain_row, rings_machine, rows_of_sum
from tests.test_court import cases

PARTED = Machine(2, [(0, 1), (0, 1)])


def plain_is_paper(machine, one, other, value):
    """As the document says it, for falling rows and pairs of numbers of small size."""
    (runs, end), pairs = value
    start = reach(machine, one, other)
    rings = ring(change_of(machine, one)), ring(change_of(machine, other))
    parts = all(plain_row(machine, one, n)[s] != plain_row(machine, other, n)[s] for n, s in pairs)
    if not parts or list(pairs) != sorted(set(pairs)):
        return False
    counts = {n for n, _ in pairs}
    if not all(same_loops(machine, one, other, n) for n in tellers((runs, end))):
        return False
    if not all(n in counts for n in range(start) if not has((runs, end), n)):
        return False
    if end == 0:
        return any(n >= max(1, start) and n % rings[0] == 0 and n % rings[1] == 0 for n in counts)
    primes = [p for p in range(2, end + 1) if end % p == 0 and all(p % q for q in range(2, p))]
    if not all(any(n >= start and n % (end // p) == 0 for n in counts) for p in primes):
        return False
    least = next(n for n in range(start, start + end) if n % end == 0)
    return sum(step * times for step, times in runs) <= least


class Papers(Case):
    def test_a_told_paper_is_one(self):
        for machine, one, other in cases(14, 200):
            paper = court_paper(machine, one, other)
            self.told(agreeing(machine, one, other), paper[0])
            self.assertTrue(plain_is_paper(machine, one, other, paper), paper)
            self.assertIs(True, is_court_paper(machine, one, other, paper))

    def test_each_left_out_or_put_in(self):
        for machine, one, other in cases(15, 60, 5):
            row, pairs = court_paper(machine, one, other)
            for size in range(len(pairs)):
                for fewer in combinations(pairs, size):
                    wanted = plain_is_paper(machine, one, other, (row, fewer))
                    self.assertIs(wanted, is_court_paper(machine, one, other, (row, fewer)))
            for count in range(9):
                for state in range(machine.states):
                    more = tuple(sorted(set(pairs + ((count, state),))))
                    wanted = plain_is_paper(machine, one, other, (row, more))
                    self.assertIs(wanted, is_court_paper(machine, one, other, (row, more)))

    def test_no_other_falling_row_has_one(self):
        rows = [((), end) for end in range(8)] + [row for total in range(2, 8) for row in rows_of_sum(total)]
        rows += rows_of_sum(6, 2) + rows_of_sum(8, 2)
        for machine, one, other in cases(16, 24, 5):
            right = agreeing(machine, one, other)
            faults = tuple((n, s) for n in range(20) for s in range(machine.states)
                           if plain_row(machine, one, n)[s] != plain_row(machine, other, n)[s])
            for row in rows + [right]:
                self.assertIs(row == right, is_court_paper(machine, one, other, (row, faults)), (row, right))

    def test_the_end_needs_each_prime(self):
        machine = rings_machine((6,), (1,) * 6)
        self.told(((), 6), court_paper(machine, (0,), (1,))[0])
        for pairs, wanted in ((((2, 0), (3, 0)), True), (((2, 0),), False), (((3, 0),), False), ((), False),
                              (((4, 1), (9, 5)), True), (((2, 0), (2, 1), (3, 5)), True), (((1, 0), (2, 0)), False)):
            self.assertIs(wanted, is_court_paper(machine, (0,), (1,), (((), 6), pairs)))
        self.assertIs(False, is_court_paper(machine, (0,), (1,), (((), 12), ((4, 0), (6, 0)))))

    def test_zero_alone(self):
        row, pairs = court_paper(PARTED, (0,), (1,))
        self.told(((), 0), row)
        self.assertTrue(plain_is_paper(PARTED, (0,), (1,), (row, pairs)))
        self.assertIs(True, is_court_paper(PARTED, (0,), (1,), (((), 0), ((1, 0),))))
        self.assertIs(True, is_court_paper(PARTED, (0,), (1,), (((), 0), ((LONG, 1),))))
        self.assertIs(False, is_court_paper(PARTED, (0,), (1,), (((), 0), ())))
        self.assertIs(False, is_court_paper(PARTED, (0,), (1,), (((), 0), ((0, 0),))))
        self.assertIs(False, is_court_paper(SHIFT, (0,), (1,), (((), 0), ((1, 1), (2, 1)))))

    def test_equal_bodies(self):
        self.told((((), 1), ()), court_paper(rings_machine((3,), (3,)), (0,), (1,)))
        self.assertIs(True, is_court_paper(SHIFT, (0, 1), (0, 1), (((), 1), ())))
        self.assertIs(False, is_court_paper(SHIFT, (0, 1), (0, 1), (((), 2), ((1, 0),))))

    def test_great_ends(self):
        machine = rings_machine((3,), (3,))
        primes = (10 ** 15 + 37) * (10 ** 15 - 11)
        self.assertIs(False, is_court_paper(machine, (0,), (1,), (((), primes), ())))
        self.assertIs(False, is_court_paper(machine, (0,), (1,), ((((LONG, LONG),), 3), ())))
        machine = rings_machine((5, 7, 9, 11, 8), (16, 13, 11))
        paper = court_paper(machine, (0,), (1,))
        self.assertIs(True, is_court_paper(machine, (0,), (1,), paper))
        self.assertIs(False, is_court_paper(machine, (0,), (1,), (paper[0], paper[1][1:])))

    def test_40_states_in_a_chain(self):
        chain = Machine(2, [(max(state - 1, 0), max(state - 2, 0)) for state in range(40)])
        row, pairs = court_paper(chain, (0,), (1,))
        self.told(((((39, 1),), 1), tuple(range(1, 39))), (row, tuple(count for count, _ in pairs)))
        self.assertIs(True, is_court_paper(chain, (0,), (1,), (row, pairs)))
        self.assertIs(False, is_court_paper(chain, (0,), (1,), (row, pairs[:-1])))

    def test_any_other_value(self):
        row, pairs = (((3, 1),), 1), ((1, 3), (2, 3))
        self.assertIs(True, is_court_paper(SHIFT, (0,), (0, 0), (row, pairs)))
        for value in (None, 3, (), (row,), [row, pairs], (row, list(pairs)), (row, ([1, 3], [2, 3])), (row, pairs, ()),
                      (row, ((2, 3), (1, 3))), (row, ((1, 3), (1, 3), (2, 3))), (row, ((1, 4), (2, 3))), (pairs, row),
                      (row, ((True, 3), (2, 3))), (row, ((1, 3, 0), (2, 3))), (row, ((1, 3), (2,))), (row, None),
                      (row, ((1, 1), (2, 3))), (row, ((1, 3), (2, 3), (3, 3))), (row, ((1, 3), None)), (row, "ab"),
                      ([((3, 1),), 1], pairs), (((((3, 1),), True)), pairs), (row, ((0, 0), (1, 3), (2, 3))),
                      (row, ((1, -1), (2, 3))), (row, ((1, 3.0), (2, 3))), (row, (1, 3))):
            self.assertIs(False, is_court_paper(SHIFT, (0,), (0, 0), value), value)
        for falling in NO_FALLINGS:
            self.assertIs(False, is_court_paper(SHIFT, (0,), (0, 0), (falling, pairs)), falling)

    def test_rows_ahead_of_all(self):
        self.refused(InvalidRow, 1, court_paper, SHIFT, (0, 2), (2,))
        self.refused(InvalidRow, 0, court_paper, SHIFT, (0,), [True])
        self.refused(InvalidRow, 1, is_court_paper, SHIFT, (0, 2), (2,), None)
        self.refused(InvalidRow, 0, is_court_paper, SHIFT, (0,), 5, None)

    def test_by_name(self):
        paper = court_paper(other=[0, 0], one=[0], machine=SHIFT)
        self.assertIs(True, is_court_paper(value=paper, other=[0, 0], one=[0], machine=SHIFT))
