"""[21] and [22]: built machines."""

from itertools import combinations

from bodyforbody.built import is_against, machine_against, marked_machine, set_machine, set_marks, side_by_side
from bodyforbody.changes import change_of, loop_end, power, same_loops
from bodyforbody.closing import closing
from bodyforbody.court import agreeing, settles
from bodyforbody.errors import InvalidQuestion, Refused
from bodyforbody.falling import has
from bodyforbody.machines import Machine
from bodyforbody.marks import fits, fitting, mark_for
from bodyforbody.papers import court_paper, is_court_paper
from tests.helpers import LONG, NO_COUNTS, NO_FALLINGS, SHIFT, Case, plain_members, rings_machine, rows_of_sum
from tests.test_marks import MARKS, NO_MARKS

PARTED = ((0, 1), (0, 1))
ROWS = [row for total in range(2, 12) for row in rows_of_sum(total)] + rows_of_sum(12, 2) + rows_of_sum(12, 3)


def plain_marked(mark):
    """As the document says it: states by names, then their numbers."""
    n, m = mark[-1], mark[0]
    names = [("state", t) for t in range(n + 2)] + [("twin", t) for t in range(m, n)]
    steps = []
    for kind, t in names:
        if t >= n:
            steps.append((n + 1, n + 1))
            continue
        state, twin = t + 1, names.index(("twin", t + 1)) if m <= t + 1 < n else n + 1
        same, other = (state, twin) if kind == "state" else (twin, state)
        steps.append((same, other if (t in mark) != (t + 1 in mark) else same))
    return tuple(steps)


class MarkedMachines(Case):
    def test_the_told_steps(self):
        for mark in MARKS:
            self.told(plain_marked(mark), marked_machine(mark).steps)
        self.told(((1, 2), (2, 2), (2, 2)), marked_machine((1,)).steps)
        self.told(((1, 1), (2, 3), (3, 3), (3, 3)), marked_machine(mark=(2,)).steps)

    def test_they_agree_at_what_the_mark_fits(self):
        for mark in MARKS:
            machine = marked_machine(mark)
            top = mark[-1]
            self.assertEqual((2, 2 * top + 2 - mark[0]), (machine.commands, machine.states))
            self.told(fitting(mark), agreeing(machine, (0,), (1,)))
            self.told((top, top + 1), (loop_end(machine, 0, (0,), top), loop_end(machine, 0, (1,), top)))

    def test_a_top_of_60(self):
        for mark in ((60,), tuple(range(1, 61)), (1, 30, 60), tuple(range(5, 61, 5))):
            machine = marked_machine(mark)
            self.told(plain_marked(mark), machine.steps)
            self.told(fitting(mark), agreeing(machine, (0,), (1,)))

    def test_no_mark(self):
        for value in NO_MARKS:
            self.refused(InvalidQuestion, 0, marked_machine, value)


def plain_against(lot, count):
    """Which of the three kinds the document tells, and its steps."""
    if not any(lot):
        return PARTED
    for q in range(2, count + 3):
        prime = min(p for p in range(2, q + 1) if q % p == 0)
        if prime ** 9 % q == 0 and not any(told % q for told in lot) and count % q:
            return tuple((state, (state + 1) % q) for state in range(q))
    return plain_marked(mark_for(lot, count))


class Against(Case):
    def test_of_each_number_that_does_not_follow(self):
        for size in range(4):
            for lot in combinations(range(0, 13, 1), size):
                for count in range(15):
                    if has(closing(lot), count):
                        self.refused(Refused, 0, machine_against, lot, count)
                        continue
                    machine = machine_against(list(lot), count)
                    self.told((2, plain_against(lot, count)), (machine.commands, machine.steps))
                    self.assertIs(True, is_against(list(lot), count, machine))
                    self.assertTrue(all(same_loops(machine, (0,), (1,), told) for told in lot))
                    self.assertFalse(same_loops(machine, (0,), (1,), count))

    def test_no_counts_and_zeros(self):
        for counts in ((), [], (0,), [0, 0]):
            self.told(PARTED, machine_against(counts, 60).steps)
            self.told(PARTED, machine_against(counts, 1).steps)
            self.refused(Refused, 0, machine_against, counts, 0)

    def test_the_least_power_of_a_prime(self):
        self.assertEqual(4, machine_against((8, 12), 6).states)
        self.assertEqual(9, machine_against([36, 9, 0], 12).states)
        self.assertEqual(2, machine_against((30,), 31).states)
        self.assertEqual(3, machine_against((6, 30), 4).states)
        self.assertEqual(5, machine_against((5, 10), 3).states)
        self.told(plain_marked((3,)), machine_against((6, 7), 3).steps)

    def test_a_power_may_be_greater_than_the_count(self):
        self.assertEqual(4, machine_against((4,), 2).states)
        self.assertEqual(3, machine_against((3,), 1).states)
        self.told(plain_marked((1,)), machine_against((5,), 1).steps)
        self.told(plain_marked((4,)), machine_against((7,), 4).steps)
        self.assertEqual(7, machine_against((7,), 5).states)
        self.told(plain_marked((60,)), machine_against((67,), 60).steps)
        self.assertEqual(61, machine_against((61,), 60).states)

    def test_up_to_60_and_30_digits(self):
        for counts, count in (((34, 55), 60), ((LONG, 59), 60), ((61,), 60), ((10 ** 29,), 60), ((59, 58), 57)):
            machine = machine_against(counts, count)
            self.told(plain_against(counts, count), machine.steps)
            self.assertIs(True, is_against(counts, count, machine))

    def test_no_counts(self):
        for value in NO_COUNTS:
            self.refused(InvalidQuestion, 0, machine_against, value, 0)
            self.refused(InvalidQuestion, 0, is_against, value, 0, None)

    def test_by_name(self):
        machine = machine_against(count=9, counts=[5, 8])
        self.assertIs(True, is_against(value=machine, count=9, counts=[5, 8]))


class IsAgainst(Case):
    def test_any_machine(self):
        machine = machine_against((5, 8), 9)
        self.assertIs(True, is_against((5, 8), 9, machine))
        self.assertIs(True, is_against((5, 8, 10, 0), 9, machine))
        self.assertIs(False, is_against((5, 8, 4), 9, machine))
        self.assertIs(False, is_against((5, 8), 10, machine))
        self.assertIs(False, is_against((5, 8), 0, machine))
        self.assertIs(False, is_against((4,), 1, machine))
        three = Machine(3, [entry + (0,) for entry in machine.steps])
        self.assertIs(True, is_against((5, 8), 9, three))
        self.assertIs(False, is_against((), 1, Machine(1, [(1,), (0,)])))

    def test_30_digits(self):
        machine = rings_machine((7,), (1,) * 7)
        seven = LONG - LONG % 7
        self.assertIs(True, is_against((seven, 7), seven + 1, machine))
        self.assertIs(False, is_against((seven, 7), seven, machine))
        self.assertIs(False, is_against((seven, 8), seven + 1, machine))

    def test_any_other_value(self):
        machine = machine_against((4, 6), 5)
        self.assertIs(True, is_against((4, 6), 5, machine))
        for value in (None, machine.steps, (2, machine.steps), [machine], (machine,), 5, True, "machine 2 2", {}):
            self.assertIs(False, is_against((4, 6), 5, value))


class SideBySide(Case):
    def test_states_are_counted_on(self):
        one, other = Machine(2, [(1, 0), (1, 1)]), Machine(2, [(2, 0), (1, 1), (0, 1)])
        for sequence in ((one, other, one), [one, other, one]):
            machine = side_by_side(sequence)
            self.told((2, ((1, 0), (1, 1), (4, 2), (3, 3), (2, 3), (6, 5), (6, 6))), (machine.commands, machine.steps))
        self.assertEqual(one, side_by_side(machines=[one]))

    def test_agreeing_is_what_is_in_all(self):
        machine = side_by_side((SHIFT, rings_machine((6,), (1,) * 6)))
        wanted = [n for n in range(30) if n % 6 == 0 and has(agreeing(SHIFT, (0,), (1,)), n)]
        self.told(wanted, plain_members(agreeing(machine, (0,), (1,)), 29))

    def test_what_is_told_is_not_changed(self):
        one = Machine(2, [(1, 0), (1, 1)])
        sequence = [one, one]
        machine = side_by_side(sequence)
        sequence.pop()
        self.told((((1, 0), (1, 1)), 4), (one.steps, machine.states))
        self.assertEqual([one], sequence)

    def test_other_commands(self):
        one, other = Machine(1, [(0,)]), Machine(2, [(0, 0)])
        self.refused(Refused, 1, side_by_side, (one, other))
        self.refused(Refused, 1, side_by_side, [other, one, one])
        self.refused(Refused, 2, side_by_side, [other, other, one, other, one])


class SetMachines(Case):
    def test_the_marks_as_they_are_taken(self):
        for row in ROWS:
            end = row[1]
            last = sum(step * times for step, times in row[0])
            taken = []
            for gap in range(last - 1, 0, -1):
                if gap % end == 0 and not has(row, gap) and all(fits(mark, gap) for mark in taken):
                    taken.append(mark_for([n for n in range(gap) if has(row, n)], gap))
            self.told(tuple(taken), set_marks(row))

    def test_they_agree_at_just_the_set(self):
        for row in ROWS + [((), 0), ((), 1), ((), 2), ((), 20)]:
            machine = set_machine(row)
            self.assertEqual(2, machine.commands)
            self.told(row, agreeing(machine, (0,), (1,)))

    def test_the_told_machines(self):
        for row in ROWS:
            parts = [marked_machine(mark) for mark in set_marks(row)]
            if row[1] > 1:
                parts.insert(0, rings_machine((1,) * row[1], (row[1],)))
            self.assertEqual(side_by_side(parts), set_machine(row))
        self.told(PARTED, set_machine(((), 0)).steps)
        self.told(((0, 0),), set_machine(((), 1)).steps)
        self.told(((0, 1), (1, 0)), set_machine(falling=((), 2)).steps)
        self.told(((), (), ()), (set_marks(((), 0)), set_marks(((), 1)), set_marks(falling=((), 20))))

    def test_sums_and_ends_up_to_20(self):
        for row in rows_of_sum(20)[::7] + rows_of_sum(20, 2) + rows_of_sum(20, 4) + [((), 20)]:
            machine = set_machine(row)
            self.told(row, agreeing(machine, (0,), (1,)))

    def test_they_may_be_passed_on(self):
        row = max(rows_of_sum(20), key=lambda row: set_machine(row).states)
        machine = set_machine(row)
        self.assertGreater(machine.states, 40)
        paper = court_paper(machine, (0,), (1,))
        self.assertIs(True, is_court_paper(machine, (0,), (1,), paper))
        self.told(20, settles(machine, (0,), (1,)))
        change = change_of(machine, (0,))
        self.told(power(change, 21), power(change, LONG))
        many = side_by_side([machine, marked_machine((60,)), set_machine(((), 1)), marked_machine((1, 59, 60))])
        self.told((((61, 1),), 1), agreeing(many, (0,), (1,)))

    def test_no_falling_row(self):
        for value in NO_FALLINGS:
            self.refused(InvalidQuestion, 0, set_marks, value)
            self.refused(InvalidQuestion, 0, set_machine, value)
