"""[29] and [30]: sets with one number less, and with one more."""

from bodyforbody.closing import closing, tellers
from bodyforbody.errors import InvalidQuestion, Refused
from bodyforbody.falling import has, is_falling
from bodyforbody.trees import filled, greatest_gap, next_rows, one_less, path, without
from tests.helpers import LONG, NO_FALLINGS, Case, low_rows, plain_members, steep_row

ROWS = [row for end in (1, 2, 5) for row in low_rows(12 * end, end)]


class Less(Case):
    def test_against_plain_members(self):
        for row in ROWS:
            bound = 200
            members = plain_members(row, bound)
            found = []
            for count in range(40):
                if count not in tellers(row):
                    self.refused(Refused, 0, without, row, count)
                    continue
                less = without(row, count)
                self.assertIs(True, is_falling(less))
                self.told([n for n in members if n != count], plain_members(less, bound))
                found.append(less)
            if all(teller < 40 for teller in tellers(row)):
                self.told(tuple(sorted(found)), one_less(row))

    def test_the_plain_rows(self):
        self.told((), one_less(((), 0)))
        for count in (0, 1, LONG):
            self.refused(Refused, 0, without, ((), 0), count)
        self.told(((((2 * LONG, 1),), LONG),), one_less(((), LONG)))
        self.told((((2 * LONG, 1),), LONG), without(count=LONG, falling=((), LONG)))
        self.refused(Refused, 0, without, ((), LONG), 0)
        self.refused(Refused, 0, without, ((), LONG), 2 * LONG)
        self.told((((4, 2),), 2), without((((4, 1),), 2), 6))
        self.told((((6, 1),), 2), without((((4, 1),), 2), 4))

    def test_runs_of_many_steps(self):
        row = (((12, LONG), (4, 10 ** 20)), 2)
        last = 12 * LONG + 4 * 10 ** 20
        self.told((12, 12 * LONG + 4, last + 2), tellers(row))
        self.told((((24, 1), (12, LONG - 2), (4, 10 ** 20)), 2), without(row, 12))
        self.told((((12, LONG), (8, 1), (4, 10 ** 20 - 2)), 2), without(row, 12 * LONG + 4))
        self.told((((12, LONG), (4, 10 ** 20 + 1)), 2), without(row, last + 2))
        self.told(tuple(sorted(without(row, count) for count in tellers(row))), one_less(falling=row))

    def test_many_runs(self):
        row = steep_row(47, 300)
        rows = one_less(row)
        self.told(tuple(sorted(without(row, count) for count in tellers(row))), rows)
        self.assertTrue(all(is_falling(less) for less in rows))
        self.told(len(tellers(row)), len(set(rows)))


class Gaps(Case):
    def test_against_plain_members(self):
        for row in ROWS:
            last = sum(step * times for step, times in row[0])
            gaps = [n for n in range(0, last + 1, row[1]) if not has(row, n)]
            self.told(gaps[-1] if gaps else None, greatest_gap(row))
            self.told(last - row[1] if gaps else None, greatest_gap(row))
            more = filled(row)
            if not gaps:
                self.assertIsNone(more)
                continue
            self.assertIs(True, is_falling(more))
            self.told(sorted(plain_members(row, 200) + gaps[-1:]), plain_members(more, 200))
            self.told(row, without(more, gaps[-1]))

    def test_paths(self):
        for row in ROWS:
            rows = path(row)
            self.told((row, ((), row[1])), (rows[0], rows[-1]))
            self.told(tuple(filled(each) for each in rows[:-1]), rows[1:])
            last = sum(step * times for step, times in row[0])
            self.told(1 + len([n for n in range(0, last, row[1]) if not has(row, n)]), len(rows))

    def test_the_next_ones(self):
        for row in ROWS:
            rows = next_rows(row)
            self.told(tuple(each for each in one_less(row) if filled(each) == row), rows)
            self.assertLessEqual(len(rows), 2)
        # All rows of the tree, up to some gap, are found, each in one way.
        found, layer = [], [((), 3)]
        while layer:
            found.extend(layer)
            layer = [each for row in layer for each in next_rows(row) if greatest_gap(each) <= 33]
        self.told(sorted(low_rows(36, 3)), sorted(found))

    def test_200_gaps(self):
        row = (((101, 2),), 1)
        self.told((201, 201), (greatest_gap(row), len(path(row))))
        row = (((201 * LONG, 1),), LONG)
        rows = path(row)
        self.told((201, row, (((200 * LONG, 1),), LONG), ((), LONG)), (len(rows), rows[0], rows[1], rows[-1]))
        self.told((((2 * LONG, 1),), LONG), rows[-2])

    def test_runs_of_many_steps(self):
        row = (((12, LONG), (4, 10 ** 20)), 2)
        last = 12 * LONG + 4 * 10 ** 20
        self.told(last - 2, greatest_gap(row))
        self.told((((12, LONG), (4, 10 ** 20 - 1)), 2), filled(row))
        self.told(((((12, LONG), (4, 10 ** 20 + 1)), 2),), next_rows(row))
        row = (((6, LONG),), 2)
        self.told((((6, LONG - 1), (4, 1)), 2), filled(row))
        row = closing((10 ** 29, 10 ** 29 + 1))
        self.told(10 ** 29 - 1, greatest_gap(row))
        self.told(row, without(filled(row), greatest_gap(row)))
        self.told((((10 ** 29 - 1, 1),), 1), filled(row))

    def test_no_gap(self):
        for end in (1, 2, LONG):
            self.told((None, None, (((), end),)), (greatest_gap(((), end)), filled(((), end)), path(((), end))))
            self.told(((((2 * end, 1),), end),), next_rows(falling=((), end)))

    def test_one_two_or_no_next_row(self):
        self.told({0, 1, 2}, {len(next_rows(row)) for row in ROWS})
        for row in ROWS:
            left = [teller for teller in tellers(row) if teller > (greatest_gap(row) or 0)]
            self.told(len(left), len(next_rows(row)))

    def test_the_end_0(self):
        for call in (greatest_gap, filled, path, next_rows):
            self.refused(Refused, 0, call, ((), 0))

    def test_no_falling_rows(self):
        for value in NO_FALLINGS:
            for call in (greatest_gap, filled, path, next_rows, one_less):
                self.refused(InvalidQuestion, 0, call, value)
            self.refused(InvalidQuestion, 0, without, value, 5)

    def test_by_name(self):
        row = (((4, 1),), 2)
        self.told((2, ((), 2), (row, ((), 2)), ((((4, 2),), 2), (((6, 1),), 2))),
                  (greatest_gap(falling=row), filled(falling=row), path(falling=row), next_rows(falling=row)))
