"""[14]: beginnings."""

from itertools import combinations

from bodyforbody.beginnings import beginning, is_beginning
from bodyforbody.closing import closing
from bodyforbody.errors import InvalidQuestion
from tests.helpers import NO_FALLINGS, Case, plain_closing, plain_members, rows_of_sum

ROWS = [((), 0), ((), 1), ((), 4)] + [row for total in range(2, 12) for row in rows_of_sum(total)] + rows_of_sum(12, 3)


class Beginnings(Case):
    def test_against_step_by_step(self):
        for row in ROWS:
            for bound in range(30):
                members = tuple(plain_members(row, bound))
                self.told(members, beginning(row, bound))
                self.assertIs(True, is_beginning(members, bound))

    def test_zero(self):
        self.told((0,), beginning(((), 0), 2000))
        self.told((0,), beginning(((), 1), 0))
        self.told((0,), beginning(bound=6, falling=((), 7)))
        self.assertIs(True, is_beginning(bound=0, value=(0,)))

    def test_bounds_up_to_2000(self):
        self.told(tuple(range(2001)), beginning(((), 1), 2000))
        self.assertIs(True, is_beginning(tuple(range(2001)), 2000))
        self.told((0, 1000, 2000), beginning((((1000, 5),), 10), 2000))
        row = closing((89, 144))
        self.told(tuple(plain_members(row, 2000)), beginning(row, 2000))
        self.assertIs(True, is_beginning(beginning(row, 2000), 2000))
        self.assertIs(False, is_beginning(tuple(range(2001)), 1999))
        self.assertIs(False, is_beginning(tuple(range(2000)), 2000))
        self.assertIs(False, is_beginning(tuple(n for n in range(2001) if n != 1001), 2000))
        self.told((0,), beginning((((10 ** 29, 10 ** 29),), 1), 2000))

    def test_no_falling_row(self):
        for value in NO_FALLINGS:
            self.refused(InvalidQuestion, 0, beginning, value, 5)

    def test_all_tuples_up_to_a_bound(self):
        for bound in range(10):
            for size in range(bound + 1):
                for rest in combinations(range(1, bound + 1), size):
                    value = (0,) + rest
                    self.assertIs(tuple(plain_closing(value, bound)) == value, is_beginning(value, bound))

    def test_any_other_value(self):
        for value in (None, 0, [0], [0, 5], (), (5,), (0, 0), (0, 5, 5), (0, 6, 5), (5, 0), (False,), (0, True, 2),
                      (0, 5.0), (0, "5"), (0, -5), (0, (5,)), "0", {0: 1}, (None,), (0, 10), ((0,),), (0, 5, 10 ** 40)):
            self.assertIs(False, is_beginning(value, 9), value)
