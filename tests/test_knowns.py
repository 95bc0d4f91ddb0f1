"""[41]: what is known of a count."""

from itertools import product

from bodyforbody.errors import InvalidQuestion
from bodyforbody.knowns import both_known
from tests.helpers import LONG, NO_KNOWNS, Case


def counts_of(known, bound):
    """The counts of a known below a bound."""
    least, step, more = known
    counts = range(least, bound, step)
    return set(counts if more is None else counts[:more + 1])


KNOWNS = [known for known in product((0, 1, 3, 6), (1, 2, 4, 6), (None, 0, 1, 2, 5))]


class BothKnown(Case):
    def test_against_all_counts(self):
        for one, other in product(KNOWNS, KNOWNS):
            known = both_known(one, other)
            counts = sorted(counts_of(one, 99) & counts_of(other, 99))
            if not counts:
                self.told(None, known)
                continue
            if one[2] is None and other[2] is None:
                wanted = counts[0], counts[1] - counts[0], None
            else:
                wanted = counts[0], counts[1] - counts[0] if len(counts) > 1 else 1, len(counts) - 1
            self.told(wanted, known)

    def test_one_count_alone(self):
        for step in (1, 2, 7, LONG):
            self.told((5, 1, 0), both_known((5, step, 0), (0, 1, None)))
            self.told((5, 1, 0), both_known((0, 5, 9), (5, step, 0)))
            self.told((5, 1, 0), both_known((5, step, 0), (5, 3, 0)))
            self.told(None, both_known((5, step, 0), (6, 1, None)))
            self.told(None, both_known((5, step, 0), (0, 2, None)))
            self.told((LONG, 1, 0), both_known((LONG, step, 0), (LONG, 1, LONG)))
        # Two counts are in each, but one only in both.
        self.told((4, 1, 0), both_known((2, 2, 1), (4, 5, 1)))
        self.told((6, 1, 0), both_known((0, 6, 1), (2, 4, 1)))

    def test_without_an_end(self):
        self.told((11, 12, None), both_known((3, 4, None), (5, 6, None)))
        self.told((5, 1, None), both_known((5, 1, None), (0, 1, None)))
        self.told((3, 8, None), both_known(one=(3, 8, None), other=(0, 1, None)))

    def test_rests_that_never_meet(self):
        self.told(None, both_known((0, 2, None), (1, 2, None)))
        self.told(None, both_known((1, 4, None), (4, 6, None)))
        self.told(None, both_known((0, 6 * 10 ** 28, None), (1, 10 ** 28, None)))

    def test_an_end_before_the_first_common_count(self):
        self.told(None, both_known((3, 4, 1), (5, 6, None)))
        self.told((11, 1, 0), both_known((3, 4, 2), (5, 6, None)))
        self.told((11, 1, 0), both_known((3, 4, 4), (5, 6, 2)))
        self.told((11, 12, 1), both_known((3, 4, 5), (5, 6, None)))
        self.told(None, both_known((5, 6, None), (3, 4, 1)))
        self.told(None, both_known((0, 1, 4), (5, 1, None)))

    def test_30_digits(self):
        self.told((LONG, LONG, None), both_known((LONG, LONG, None), (0, LONG, None)))
        self.told((LONG, LONG, 7), both_known((LONG, LONG, None), (0, LONG, 8)))
        step, other = 10 ** 29, 10 ** 29 + 1
        # n is 5 and more by the first step, 3 and more by the second one: both meet after 2 of the first one's steps.
        known = both_known((5, step, None), (3, other, None))
        self.told((5 + 2 * step, step * other, None), known)
        self.told(0, (known[0] - 3) % other)
        self.told((5 + 2 * step, step * other, LONG // other), both_known((5, step, LONG), (3, other, None)))
        self.told(None, both_known((5, step, 1), (3, other, LONG)))

    def test_the_example(self):
        self.told((6, 12, 1), both_known((2, 4, None), (0, 6, 3)))
        self.told((7, 1, 5), both_known((5, 1, None), (7, 1, 5)))

    def test_refusals(self):
        good = (0, 1, None)
        self.refused(InvalidQuestion, 0, both_known, None, None)
        for value in NO_KNOWNS:
            self.refused(InvalidQuestion, 0, both_known, value, good)
            self.refused(InvalidQuestion, 1, both_known, other=value, one=good)
