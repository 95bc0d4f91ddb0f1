"""[31]: falling rows with the end 1, counted by their sums."""

from bodyforbody.counted import how_many, index_of, row_at
from bodyforbody.errors import InvalidQuestion, Refused
from bodyforbody.falling import runs_sum
from tests.helpers import LONG, NO_FALLINGS, Case, low_rows, rows_of_sum


class Counted(Case):
    def test_against_all_rows(self):
        rows = low_rows(22)
        for total in range(23):
            told = [row for row in rows if runs_sum(row) == total]
            self.told(len(told), how_many(total))
            self.told(told, [row_at(total, index) for index in range(len(told))])
            self.told(list(range(len(told))), [index_of(row) for row in told])
            for index in (len(told), len(told) + 1, LONG):
                self.refused(Refused, 1, row_at, total, index)

    def test_the_plain_ones(self):
        self.told([1, 0, 1, 1, 2, 2, 4, 3, 7, 6, 10, 9, 17], [how_many(total) for total in range(13)])
        self.told([len(rows_of_sum(total)) for total in range(11)], [how_many(total) for total in range(11)])
        self.told((((), 1), 0), (row_at(0, 0), index_of(((), 1))))
        self.refused(Refused, 1, row_at, 1, 0)
        self.refused(Refused, 1, row_at, 0, 1)

    def test_sum_30(self):
        rows = [row for row in low_rows(30) if runs_sum(row) == 30]
        self.told(len(rows), how_many(total=30))
        self.told(rows, [row_at(30, index) for index in range(len(rows))])
        last = len(rows) - 1
        self.told(((((30, 1),), 1), last), (row_at(index=last, total=30), index_of(falling=rows[-1])))
        self.refused(Refused, 1, row_at, 30, len(rows))
        for index in range(0, len(rows), 10):
            self.told(index, index_of(rows[index]))

    def test_other_rows_have_no_index(self):
        for row in (((), 0), ((), 2), (((4, 1),), 2), (((31, 1),), 1), (((16, 2),), 1), (((LONG, LONG),), 1),
                    ((), LONG)):
            self.refused(Refused, 0, index_of, row)

    def test_no_falling_rows(self):
        for value in NO_FALLINGS:
            self.refused(InvalidQuestion, 0, index_of, value)
