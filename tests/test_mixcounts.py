"""[45]: how many kinds of mixes there are."""

from bodyforbody.errors import InvalidQuestion
from bodyforbody.mixcounts import kinds, short_runs
from bodyforbody.mixes import leftover
from tests.helpers import LONG, NO_FALLINGS, Case, low_rows, mixes_of, plain_lots, plain_members, random_row, some, ways_of


def longest(mix):
    """How often a letter stands side by side at most."""
    most = held = 0
    for at, letter in enumerate(mix):
        held = held + 1 if at and mix[at - 1] == letter else 1
        most = max(most, held)
    return most


def fact(row, bodies, length):
    """The sum that [45] tells, with members one by one."""
    total = 0
    members = plain_members(row, length + 200)
    for at, base in enumerate(members):
        if base <= length:
            step = members[at + 1] - base if at + 1 < len(members) else 0
            total += short_runs(bodies, length - base, min(step - 1, 100)) if step else bodies ** (length - base)
    return total


class ShortRuns(Case):
    def test_against_all_mixes(self):
        for bodies, longer in ((1, 8), (2, 8), (3, 6), (4, 4)):
            for length in range(longer + 1):
                runs = [longest(mix) for mix in mixes_of(bodies, length)]
                for most in range(length + 3):
                    self.told(len([run for run in runs if run <= most]), short_runs(bodies, length, most))

    def test_the_edges(self):
        for bodies in range(1, 9):
            self.told((1, 1, 0, 0), (short_runs(bodies, 0, 0), short_runs(bodies, 0, 100), short_runs(bodies, 1, 0),
                                     short_runs(bodies, 100, 0)))
            self.told((bodies, bodies ** 100), (short_runs(bodies, 1, 1), short_runs(bodies, 100, 100)))
            self.told(bodies * (bodies - 1) ** 99, short_runs(bodies=bodies, length=100, most=1))
            self.told(bodies ** 100 - bodies, short_runs(bodies, 100, 99))
        self.told((1, 0, 0), (short_runs(1, 100, 100), short_runs(1, 100, 99), short_runs(1, 2, 1)))
        # Two letters, never more than two side by side: twice Fibonacci's numbers.
        fib = [1, 1]
        while len(fib) < 101:
            fib.append(fib[-1] + fib[-2])
        self.told(2 * fib[100], short_runs(2, 100, 2))


class Kinds(Case):
    def test_against_exchanges(self):
        for row in low_rows(7) + low_rows(6, 2) + [((), 3), ((), 0), ((), 9)]:
            for bodies, longer in ((1, 6), (2, 7), (3, 4)):
                for length in range(longer + 1):
                    lots = plain_lots(mixes_of(bodies, length), ways_of(row, bodies, length))
                    self.told(len(lots), kinds(row, bodies, length))

    def test_against_leftovers(self):
        for row in ((((3, 1), (2, 1)), 1), (((4, 2),), 2), ((), 2)):
            self.told(len({leftover(row, mix) for mix in mixes_of(2, 10)}), kinds(row, 2, 10))

    def test_the_fact(self):
        numbers = some(74)
        for _ in range(60):
            row = random_row(numbers, numbers.choice((1, 2, 3, 7)), 3, 9)
            for length in (0, 1, 7, 50, 99, 100):
                for bodies in (1, 2, 8):
                    self.told(fact(row, bodies, length), kinds(row, bodies, length))

    def test_the_edges(self):
        for bodies in range(1, 9):
            self.told((1, 1, 1), tuple(kinds(row, bodies, 0) for row in (((), 0), ((), 1), (((7, 1),), 1))))
            self.told((bodies ** 100, 1), (kinds(((), 0), bodies, 100), kinds(((), 1), bodies, 100)))
            for step in (101, 102, 500, LONG):
                self.told(bodies ** 100, kinds(((), step), bodies, 100))
                self.told(bodies ** 100, kinds((((2 * step, LONG),), step), bodies, 100))
            self.told(bodies ** 100 - bodies + 1, kinds(((), 100), bodies, 100))
        self.told((1, 1), (kinds(((), 0), 1, 100), kinds((((5, 1), (3, 1), (2, 1)), 1), 1, 100)))

    def test_runs_of_many_steps(self):
        self.told(kinds(((), 4), 3, 100), kinds(falling=(((4, 10 ** 20),), 2), bodies=3, length=100))
        self.told(kinds(((), 4), 8, 97), kinds((((4, 25),), 2), 8, 97))
        self.told(fact((((4, 24), (2, 30)), 1), 8, 100), kinds((((4, 24), (2, 10 ** 20)), 1), 8, 100))

    def test_refusals(self):
        for value in NO_FALLINGS:
            self.refused(InvalidQuestion, 0, kinds, value, 2, 4)
