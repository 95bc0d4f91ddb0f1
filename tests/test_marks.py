"""[20]: marks."""

from itertools import combinations

from bodyforbody.closing import closing
from bodyforbody.errors import InvalidQuestion
from bodyforbody.falling import has, is_falling
from bodyforbody.marks import fits, fitting, mark_for
from tests.helpers import LONG, NO_COUNTS, NO_SEQUENCES, Case, plain_members

NO_MARKS = NO_SEQUENCES + ((), [1], [2, 3], (0,), (0, 1), (1, 1), (2, 1), (True,), (1, True), (-1, 2), ("1",), (1.0,),
                           (1, None), ((1,),), (1, 3, 2))
MARKS = [mark for size in range(1, 8) for mark in combinations(range(1, 8), size)]


def plain_fits(mark, count):
    top = max(mark)
    return count > top or all((t in mark) == (t + count in mark) for t in range(top - count + 1))


class Marks(Case):
    def test_against_one_by_one(self):
        for mark in MARKS:
            wanted = [n for n in range(16) if plain_fits(mark, n)]
            self.told(wanted, [n for n in range(16) if fits(mark, n) is True])
            self.told([n for n in range(16) if n not in wanted], [n for n in range(16) if fits(mark, n) is False])
            row = fitting(mark)
            self.assertIs(True, is_falling(row))
            self.told(wanted, plain_members(row, 15))
            self.assertFalse(has(row, mark[-1]))

    def test_0_the_top_and_beyond(self):
        for mark in ((1,), (60,), (1, 4, 6, 9)):
            self.told((True, False, True, True), (fits(mark, 0), fits(mark, mark[-1]), fits(mark, mark[-1] + 1),
                                                  fits(mark, LONG)))

    def test_tops_up_to_60(self):
        self.told((((61, 1),), 1), fitting((60,)))
        for mark in (tuple(range(1, 61)), tuple(range(30, 61)), tuple(range(2, 61, 2)), tuple(range(3, 61, 7))):
            self.told([n for n in range(130) if plain_fits(mark, n)], plain_members(fitting(mark), 129))

    def test_no_mark(self):
        for value in NO_MARKS:
            self.refused(InvalidQuestion, 0, fits, value, 1)
            self.refused(InvalidQuestion, 0, fitting, value)

    def test_by_name(self):
        self.told((False, (((2, 1),), 1)), (fits(count=1, mark=(1,)), fitting(mark=(1,))))
        self.told((5,), mark_for(count=5, counts=[6]))


class MarkFor(Case):
    def test_a_walk_or_a_mark(self):
        for size in range(4):
            for lot in combinations(range(1, 9), size):
                for count in range(1, 14):
                    mark = mark_for(lot, count)
                    self.assertIs(has(closing(lot), count), mark is None)
                    if mark is not None:
                        self.assertEqual(count, mark[-1])
                        self.assertTrue(all(plain_fits(mark, n) for n in lot))

    def test_no_mark_has_a_greater_least_number(self):
        for lot in ((5, 8), (3, 7), (4,), (6, 9), (5, 7), ()):
            for count in range(1, 10):
                mark = mark_for(lot, count)
                rivals = [rest + (count,) for size in range(count) for rest in combinations(range(1, count), size)]
                fitting_ones = [rival for rival in rivals if all(plain_fits(rival, n) for n in lot)]
                self.assertIs(mark is None, not fitting_ones)
                if mark is not None:
                    self.assertEqual(mark[0], max(rival[0] for rival in fitting_ones))

    def test_edges(self):
        self.told((None, None, None, (7,), (7,)), (mark_for((), 0), mark_for((5,), 0), mark_for([7, 0, 7], 7),
                                                   mark_for([], 7), mark_for((0, 8, LONG), 7)))
        self.told((1, 4, 6, 9), mark_for((8, 5, 5), 9))
        self.assertIsNone(mark_for((2, 4), 60))
        self.told(tuple(range(1, 60, 2)), mark_for((2, 4), 59))

    def test_no_counts(self):
        for value in NO_COUNTS:
            self.refused(InvalidQuestion, 0, mark_for, value, 5)
