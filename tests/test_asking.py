"""[27]: low falling rows that are as told, and asking until one is left."""

from math import gcd

from bodyforbody.asking import learned, next_question, possible_rows
from bodyforbody.built import set_machine
from bodyforbody.changes import same_loops
from bodyforbody.court import agreeing
from bodyforbody.errors import InvalidQuestion, Refused
from bodyforbody.falling import has
from tests.helpers import LONG, NO_COUNTS, Case, low_rows, machines, some


def plain_rows(yes, no, height):
    """All rows as low as the height that are as told, tried one by one."""
    common = gcd(*yes)
    rows = [row for end in range(1, common + 1) if common % end == 0 for row in low_rows(height, end)]
    return sorted(row for row in rows if all(has(row, n) for n in yes) and not any(has(row, n) for n in no))


def plain_question(rows, bound):
    """The first number that parts the rows best."""
    def most(number):
        having = sum(has(row, number) for row in rows)
        return max(having, len(rows) - having)
    return None if len(rows) == 1 else min(range(bound), key=most)


class Rows(Case):
    def test_against_all_rows(self):
        numbers = some(35)
        for _ in range(120):
            yes = [numbers.randrange(25) for _ in range(numbers.randint(1, 3))] + [numbers.randint(1, 30)]
            no = [numbers.randrange(1, 25) for _ in range(numbers.randrange(4))]
            height = numbers.randrange(11)
            rows = plain_rows(yes, no, height)
            self.told(tuple(rows), possible_rows(yes, tuple(no), height))
            if not rows:
                self.refused(Refused, 1, next_question, yes, no, height)
            else:
                self.told(plain_question(rows, 80), next_question(tuple(yes), no, height))

    def test_height_16(self):
        ends = [end for end in range(1, 61) if 60 % end == 0]
        rows = sorted(row for end in ends for row in low_rows(16, end))
        self.told(tuple(rows), possible_rows((60,), (), 16))
        self.told(tuple(rows), possible_rows([0, 120, 60, 180 * LONG], (), 16))
        number = next_question((60,), [], 16)
        self.told(plain_question(rows, 200), number)
        self.assertLess(number, 76)
        self.told(tuple(row for row in rows if not has(row, 59)), possible_rows((60,), (59,), 16))

    def test_height_0(self):
        self.told((((), 1), ((), 2), ((), 3), ((), 6)), possible_rows((6,), (), 0))
        self.told((((), 6),), possible_rows((6,), (2, 3), 0))
        self.told(None, next_question((6,), (2, 3), 0))
        self.told(2, next_question((6,), (), 0))
        self.told(3, next_question((6,), (2,), 0))

    def test_many_long_counts(self):
        yes = [60 * (LONG // 60 - at) for at in range(40)]
        no = [LONG + 30 * at + 7 for at in range(40)]
        wanted = tuple(row for row in possible_rows((60,), (), 16) if not any(has(row, n) for n in no))
        self.told(wanted, possible_rows(yes, no, 16))
        self.assertTrue(all(row[1] > 1 for row in wanted))
        self.told((60 * (LONG // 60), 40, 40), (yes[0], len(yes), len(no)))

    def test_zero_is_never_parted(self):
        for no in ((0,), [0, 5]):
            self.told((), possible_rows((4,), no, 4))
            self.refused(Refused, 1, next_question, (4,), no, 4)

    def test_counts_are_kept(self):
        yes, no = [6, 0, 6], [3, 9]
        rows = possible_rows(yes, no, 4)
        next_question(yes, no, 4)
        self.told(([6, 0, 6], [3, 9]), (yes, no))
        yes.append(1)
        self.told(possible_rows((6,), (3, 9), 4), rows)

    def test_by_name(self):
        self.told((((), 2),), possible_rows(height=0, no=[3], yes=[4, 6]))
        self.told(None, next_question(height=0, no=[3], yes=[4, 6]))

    def test_the_order_of_refusals(self):
        for call in (possible_rows, next_question):
            for value in NO_COUNTS:
                self.refused(InvalidQuestion, 0, call, value, value, 4)
                self.refused(InvalidQuestion, 0, call, value, (1,), 4)
                self.refused(InvalidQuestion, 1, call, (), value, 4)
                self.refused(InvalidQuestion, 1, call, (4,), value, 4)
            for yes in ((), [], (0,), [0, 0]):
                self.refused(Refused, 0, call, yes, (), 4)
                self.refused(Refused, 0, call, yes, (0,), 4)
        self.refused(Refused, 1, next_question, (4,), (8,), 4)
        self.told((), possible_rows((4,), (8,), 4))


class Witness:
    """Tells what a set has, and keeps what it was asked."""

    def __init__(self, row):
        self.row = row
        self.asked = []

    def tell(self, number):
        self.asked.append(number)
        return has(self.row, number)


class Learning(Case):
    def test_each_row_is_found(self):
        for count, height in ((1, 5), (4, 8), (6, 6), (12, 9), (7, 0), (60, 4), (1, 0)):
            for row in possible_rows((count,), (), height):
                witness = Witness(row)
                found, asked = learned(witness.tell, count, height)
                self.told(row, found)
                self.told(witness.asked, [number for number, _ in asked])
                self.check_questions(count, height, asked)

    def check_questions(self, count, height, asked):
        yes, no = [count], []
        left = len(possible_rows(yes, no, height))
        for number, answer in asked:
            self.told(number, next_question(yes, no, height))
            (yes if answer else no).append(number)
            rows = possible_rows(yes, no, height)
            self.assertTrue(0 < len(rows) < left)
            left = len(rows)
        self.told(None, next_question(yes, no, height))

    def test_any_answers(self):
        for count, height in ((60, 16), (48, 16), (7, 16), (36, 11)):
            for at, ask in enumerate((lambda number: True, lambda number: False, lambda number: number % 7 > 2,
                                      [3, 14, 15, 26].__contains__)):
                row, asked = learned(ask, count, height)
                self.assertTrue(asked, at)
                self.assertTrue(all(answer is ask(number) and has(row, number) is answer for number, answer in asked))
                self.assertTrue(has(row, count))
                self.check_questions(count, height, asked)

    def test_two_bodies(self):
        for machine in machines(36, 40, 6):
            row = agreeing(machine, (0,), (1,))
            counts = [n for n in range(1, 61) if has(row, n)]
            if not counts:
                continue
            height = machine.states - 2 + row[1]
            found, _ = learned(count=counts[0], height=height,
                               ask=lambda number: same_loops(machine, (0,), (1,), number))
            self.told(row, found)

    def test_a_built_machine(self):
        row = (((5, 1), (3, 1), (2, 1)), 1)
        machine = set_machine(row)
        self.told(row, learned(lambda number: same_loops(machine, (0,), (1,), number), 5, 10)[0])

    def test_nothing_to_ask(self):
        def never(number):
            raise AssertionError(number)
        self.told((((), 1), ()), learned(never, 1, 0))
        self.told((((), 1), ()), learned(never, 1, 1))
