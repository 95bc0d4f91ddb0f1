"""[23], [24], [26]: what follows from counts, two lots of them, least lots."""

from itertools import combinations

from bodyforbody.errors import InvalidQuestion
from bodyforbody.following import follows, is_least_lot, is_weaker, least_lot, parting
from tests.helpers import LONG, NO_COUNTS, Case, plain_closing, some

LOTS = [lot for size in range(4) for lot in combinations(range(1, 11), size)]
CLOSINGS = {lot: plain_closing(lot, 22) for lot in LOTS}


class Following(Case):
    def test_against_plain_closings(self):
        for lot in LOTS:
            for count in range(23):
                self.assertIs(count in CLOSINGS[lot], follows(lot, count), (lot, count))

    def test_zeros_lists_and_names(self):
        for counts in ((), [], (0,), [0, 0], (0, 7), [7, 0, 7]):
            self.assertIs(True, follows(counts, 0))
            self.assertIs(7 in counts, follows(counts, 7))
            self.assertIs(False, follows(counts, 8))
        self.assertIs(True, follows(count=11, counts=[8, 5, 5]))

    def test_long_counts(self):
        counts = tuple(LONG - 7 * at for at in range(40))
        self.assertIs(True, follows(counts, LONG + 7))
        self.assertIs(False, follows(counts, LONG + 1))
        self.assertIs(False, follows(counts, LONG - 7 * 40))
        self.assertIs(True, follows((2, LONG), LONG + 1))
        self.assertIs(False, follows((2, LONG), LONG - 2))

    def test_counts_are_kept(self):
        counts = [8, 5, 0, 5]
        for call in (follows, least_lot):
            call(counts, 11)
        is_least_lot(counts, 11, (0, 1))
        is_weaker(counts, counts)
        parting(counts, counts)
        self.told([8, 5, 0, 5], counts)

    def test_no_counts(self):
        for value in NO_COUNTS:
            self.refused(InvalidQuestion, 0, follows, value, 3)
            self.refused(InvalidQuestion, 0, least_lot, value, 3)
            self.refused(InvalidQuestion, 0, is_least_lot, value, 3, None)


class TwoLots(Case):
    def test_against_plain_closings(self):
        numbers = some(31)
        for one in LOTS:
            for other in numbers.sample(LOTS, 25) + [one]:
                first, second = CLOSINGS[one], CLOSINGS[other]
                self.assertIs(set(one) <= set(second), is_weaker(list(one), other))
                self.assertIs(set(first) <= set(second), is_weaker(one, other))
                parted = [n for n in range(23) if (n in first) != (n in second)]
                self.told(parted[0] if parted else None, parting(one, list(other)))

    def test_zeros_and_none(self):
        self.assertIs(True, is_weaker((), ()))
        self.assertIs(True, is_weaker([0], ()))
        self.assertIs(False, is_weaker([0, 1], (0,)))
        self.told(None, parting((), [0, 0]))
        self.told(3, parting((0, 3), ()))
        self.told(3, parting((), (3, 6, 3)))

    def test_long_counts(self):
        self.told(LONG, parting((2,), (2, LONG)))
        self.told(None, parting((LONG, 2 * LONG), [LONG, LONG, 0]))
        self.told(LONG, parting(one=(LONG,), other=(2 * LONG,)))
        self.assertIs(True, is_weaker(other=(LONG, 2), one=[LONG + 5]))
        self.assertIs(False, is_weaker((LONG - 2,), (LONG, 2)))
        counts = tuple(LONG - 10 * at for at in range(40))
        self.told(None, parting(counts, counts[-2:]))
        self.told(LONG - 390, parting(counts, counts[:-1]))

    def test_the_first_lot_is_refused_first(self):
        for value in NO_COUNTS:
            for call in (is_weaker, parting):
                self.refused(InvalidQuestion, 0, call, value, value)
                self.refused(InvalidQuestion, 0, call, value, (1,))
                self.refused(InvalidQuestion, 1, call, [1], value)


def plain_least_lots(counts, count):
    """All lots of indexes from which the number follows, and from no lesser lot among them."""
    enough = [lot for size in range(len(counts) + 1) for lot in combinations(range(len(counts)), size)
              if count in plain_closing([counts[at] for at in lot], max(count, 1))]
    return [lot for lot in enough if not any(set(less) < set(lot) for less in enough)]


class LeastLots(Case):
    def test_against_all_lots(self):
        numbers = some(32)
        for _ in range(150):
            counts = [numbers.randrange(0, 15) for _ in range(numbers.randint(0, 5))]
            for count in numbers.sample(range(25), 4):
                wanted = plain_least_lots(counts, count)
                for size in range(len(counts) + 1):
                    for lot in combinations(range(len(counts)), size):
                        self.assertIs(lot in wanted, is_least_lot(counts, count, lot), (counts, count, lot))
                found = least_lot(tuple(counts), count)
                self.assertTrue(found in wanted if wanted else found is None, (counts, count, found))

    def test_zero_wants_no_count(self):
        for counts in ((), (0,), [3, 0, 3], (5,)):
            self.told((), least_lot(counts, 0))
            self.assertIs(True, is_least_lot(counts, 0, ()))
            self.assertIs(False, is_least_lot(counts, 0, (0,)))

    def test_what_is_none(self):
        counts = (6, 10, 4, 15, 6)
        self.assertIs(True, is_least_lot(counts, 6, (0,)))
        self.assertIs(True, is_least_lot(counts, 6, (4,)))
        self.assertIs(True, is_least_lot(counts, 22, (0, 1)))
        self.assertIs(False, is_least_lot(value=(0, 2), count=9, counts=[6, 10, 4, 15, 6]))
        self.assertIs(True, is_least_lot(value=(0, 2), count=10, counts=[6, 10, 4, 15, 6]))
        for value in (None, 0, [0, 1], (1, 0), (0, 0), (0, 1, 1), (0, 1, 2), (0, 5), (-1,), (True,), (False, 1),
                      (0.0, 1), ("0", 1), ((0, 1),), "01", (0, 1, None), {0: 1}, (0, 10 ** 30), (0, 4), b"\x00\x01", range(2)):
            self.assertIs(False, is_least_lot(counts, 22, value), value)

    def test_a_bool_is_no_index(self):
        self.assertIs(True, is_least_lot((4, 3), 3, (1,)))
        self.assertIs(False, is_least_lot((4, 3), 3, (True,)))
        self.assertIs(True, is_least_lot((3, 4), 3, (0,)))
        self.assertIs(False, is_least_lot((3, 4), 3, (False,)))

    def test_40_long_counts(self):
        numbers = some(33)
        counts = tuple(numbers.randrange(10 ** 29, 10 ** 30) for _ in range(40))
        for count in (max(counts), min(counts) * 3, 10 ** 31 + 1):
            found = least_lot(counts, count)
            self.assertIs(found is not None, follows(counts, count))
            self.assertTrue(found is None or is_least_lot(counts, count, found))
        near = tuple(LONG - at for at in range(40))
        self.assertIs(True, is_least_lot(near, 2 * LONG, least_lot(near, 2 * LONG)))
        self.assertIs(True, is_least_lot(near, LONG + 1, least_lot(near, LONG + 1)))
        self.told(None, least_lot(near, LONG - 40))
