"""[43]: spreads."""

from bodyforbody.closing import closing
from bodyforbody.errors import InvalidQuestion
from bodyforbody.falling import has, is_falling, member_at
from bodyforbody.spreads import spread
from tests.helpers import LONG, NO_FALLINGS, Case, low_rows, plain_members, random_row, some, steep_row


class Spreads(Case):
    def check(self, row, times, plus, bound=60):
        """All counts up to a bound, one by one."""
        told = spread(row, times, plus)
        members = [n for n in range(bound + 1) if has(row, times * n + plus)]
        if told is None:
            self.told([], members)
            return None
        least, falling = told
        self.assertIs(True, is_falling(falling))
        self.told(members, [least + more for more in plain_members(falling, bound - least)] if least <= bound else [])
        return told

    def test_against_all_counts(self):
        for row in low_rows(10) + low_rows(12, 2) + low_rows(15, 3) + [((), 4), ((), 6), ((), 0)]:
            for times in range(7):
                for plus in range(13):
                    self.check(row, times, plus)

    def test_many_rows(self):
        numbers = some(69)
        for _ in range(600):
            row = random_row(numbers, numbers.choice((1, 1, 2, 6)))
            self.check(row, numbers.randrange(1, 15), numbers.randrange(60), 400)

    def test_times_0(self):
        row = (((5, 1), (3, 1), (2, 1)), 1)
        self.told(((0, ((), 1)), None, (0, ((), 1))), (spread(row, 0, 5), spread(row, 0, 6), spread(row, 0, LONG)))
        self.told((0, ((), 1)), spread(plus=0, times=0, falling=((), 0)))
        self.told(None, spread(((), 0), 0, 1))

    def test_the_set_of_0_alone(self):
        self.told(((0, ((), 0)), None, None),
                  (spread(((), 0), 3, 0), spread(((), 0), 3, 6), spread(((), 0), LONG, LONG)))

    def test_plus_not_in_the_set(self):
        row = (((5, 1), (3, 1), (2, 1)), 1)
        self.told(((1, (((3, 1),), 1)), (1, ((), 1))), (spread(row, 2, 3), spread(row, 1, 9)))
        self.told((2, (((3, 1), (2, 1)), 1)), spread(row, 1, 3))
        self.told(None, spread(((), 4), 2, 1))
        self.told(None, spread((((6, 1),), 3), 3, 1))
        self.told((1, ((), 2)), spread(((), 4), 2, 2))

    def test_runs_of_many_steps(self):
        row = (((36, 10 ** 15), (12, 10 ** 15)), 6)
        behind, last = 36 * 10 ** 15, 48 * 10 ** 15
        self.told((0, (((18, 10 ** 15), (6, 10 ** 15)), 3)), spread(row, 2, 0))
        self.told(None, spread(row, 2, 1))
        told = spread(row, 7, 6)
        self.assertIs(True, is_falling(told[1]))
        self.told((30, 36), (told[0], told[1][0][0][0]))
        for n in (0, 30, 66, 10 ** 14, behind // 7 - 40, behind // 7, last // 7 - 20, last // 7, LONG):
            for near in range(n, n + 41):
                self.assertIs(has(row, 7 * near + 6), near >= 30 and has(told[1], near - 30))
        self.told((0, ((), 1)), spread(row, last, 0))
        self.told((0, ((), 1)), spread(row, 36, 0))
        self.told((0, (((3, 10 ** 15),), 1)), spread(row, 12, 0))

    def test_30_digits(self):
        row = (((LONG, LONG), (LONG // 3, LONG)), LONG // 9)
        for times, plus in ((LONG, LONG), (10 ** 29, 0), (LONG - 1, 8 * (LONG // 9)), (1, LONG), (3, 3), (LONG // 9, LONG)):
            told = spread(row, times, plus)
            least, falling = told
            self.assertIs(True, is_falling(falling))
            for index in (0, 1, 2, 3, 10 ** 9, 10 ** 40):
                n = least + member_at(falling, index)
                self.assertIs(True, has(row, times * n + plus))
                after = least + member_at(falling, index + 1)
                for other in (n + 1, (n + after) // 2, after - 1):
                    self.assertIs(other == n or other == after, has(row, times * other + plus))
        self.told(None, spread(row, LONG // 9, 1))
        self.told(None, spread(row, LONG, 10 ** 29))
        self.told((0, ((), 1)), spread(((), LONG), LONG, 0))
        self.told((0, (((3, LONG),), 1)), spread(row, LONG // 3, 0))

    def test_many_runs(self):
        numbers = some(70)
        for end in (1, 6):
            row = steep_row(71, 60, end)
            for times, plus in ((1, 0), (2, end), (7, 12), (10 ** 9 + 7, end * 10 ** 9)):
                told = spread(row, times, plus)
                if told is not None:
                    self.assertIs(True, is_falling(told[1]))
                    for _ in range(20):
                        n = numbers.randrange(10 ** numbers.randint(1, 20))
                        self.assertIs(has(row, times * n + plus),
                                      n >= told[0] and has(told[1], n - told[0]))

    def test_all_counts(self):
        # All counts are among them exactly if the first two are.
        for row in low_rows(12) + low_rows(12, 2):
            for times in range(1, 6):
                for plus in range(10):
                    both = has(row, plus) and has(row, times + plus)
                    self.assertIs(both, spread(row, times, plus) == (0, ((), 1)))

    def test_of_a_closing(self):
        self.told((0, closing((5, 8))), spread(closing((5, 8)), 1, 0))
        self.told((0, closing((5, 8))), spread(closing((10, 16)), 2, 0))

    def test_refusals(self):
        for value in NO_FALLINGS:
            self.refused(InvalidQuestion, 0, spread, value, 2, 3)
            self.refused(InvalidQuestion, 0, spread, falling=value, times=0, plus=0)
