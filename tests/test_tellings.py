"""[25]: what is surely so where two bodies agree at some counts and do not at others."""

from itertools import combinations

from bodyforbody.built import set_machine
from bodyforbody.changes import same_loops
from bodyforbody.closing import closing
from bodyforbody.errors import InvalidQuestion, Refused
from bodyforbody.tellings import is_possible, sureness
from tests.helpers import LONG, NO_COUNTS, Case, plain_closing, some

# All beginnings up to 9 of closed sets: each is that of what follows from its own numbers.
SETS = {tuple(plain_closing(lot, 9)) for size in range(10) for lot in combinations(range(1, 10), size)}


def plain_sureness(sets, count):
    """What all of the sets tell of a number."""
    having = [count in numbers for numbers in sets]
    return True if all(having) else None if any(having) else False


class Tellings(Case):
    def test_against_all_closed_sets(self):
        numbers = some(34)
        for _ in range(600):
            yes = [numbers.randrange(10) for _ in range(numbers.randrange(4))]
            no = [numbers.randrange(10) for _ in range(numbers.randrange(4))]
            sets = [each for each in SETS if set(yes) <= set(each) and not set(no) & set(each)]
            self.assertIs(bool(sets), is_possible(tuple(yes), no), (yes, no))
            for count in range(10):
                if not sets:
                    self.refused(Refused, 0, sureness, yes, no, count)
                else:
                    self.assertIs(plain_sureness(sets, count), sureness(yes, tuple(no), count), (yes, no, count))

    def test_a_machine_that_is_as_told(self):
        for yes, no in (((5, 8), (9, 3)), ((6,), (3, 4)), ((), (1, 2, 3)), ((4, 6), (2, 7))):
            self.assertIs(True, is_possible(yes, no))
            machine = set_machine(closing(yes))
            self.assertTrue(all(same_loops(machine, (0,), (1,), count) for count in yes))
            self.assertFalse(any(same_loops(machine, (0,), (1,), count) for count in no))

    def test_zero_and_none(self):
        self.assertIs(True, is_possible((), ()))
        self.assertIs(True, is_possible([0], [1]))
        self.assertIs(False, is_possible((), (0,)))
        self.assertIs(False, is_possible((5,), (3, 0)))
        self.refused(Refused, 0, sureness, (), [0], 0)
        self.assertIs(True, sureness((), (), 0))
        self.assertIs(None, sureness((), (), 1))
        self.assertIs(True, sureness([0], (), 0))
        self.assertIs(False, sureness((), [3, 3], 3))
        self.assertIs(False, sureness((), (6,), 3))
        self.assertIs(None, sureness((), (6,), 4))

    def test_long_counts(self):
        self.assertIs(True, is_possible((2, LONG), (LONG - 2,)))
        self.assertIs(False, is_possible((2, LONG), (LONG - 2, LONG + 2)))
        self.assertIs(False, sureness((2,), (LONG,), 7))
        self.assertIs(None, sureness((2,), (LONG,), LONG + 2))
        self.assertIs(True, sureness((2,), (LONG,), LONG + 1))
        counts = [LONG - 10 * at for at in range(40)]
        self.assertIs(True, sureness(yes=counts, no=[at for at in range(1, 41)], count=LONG + 10))
        self.assertIs(False, sureness(counts, [LONG + 1], LONG - 9))
        self.assertIs(None, sureness(count=LONG + 11, no=[LONG + 1], yes=counts))
        self.told((LONG, 40), (counts[0], len(counts)))

    def test_the_order_of_refusals(self):
        for value in NO_COUNTS:
            self.refused(InvalidQuestion, 0, is_possible, value, value)
            self.refused(InvalidQuestion, 0, is_possible, value, (0,))
            self.refused(InvalidQuestion, 1, is_possible, (0,), value)
            self.refused(InvalidQuestion, 0, sureness, value, value, 3)
            self.refused(InvalidQuestion, 0, sureness, value, (0,), 3)
            self.refused(InvalidQuestion, 1, sureness, (1,), value, 3)
