"""[53] and [54]: sheets that hold or do not."""

from bodyforbody.built import machine_against
from bodyforbody.closing import derivation
from bodyforbody.court import loop_fault
from bodyforbody.errors import InvalidQuestion, InvalidRow, Refused
from bodyforbody.machines import Machine
from bodyforbody.papers import court_paper
from bodyforbody.sheets import sheet, sheet_holds, wrong_sheets
from bodyforbody.walks import walk
from tests.helpers import LONG, NO_COUNTS, NO_NUMBERS, NO_SEQUENCES, SHIFT, SIX, Case, machines, rings_machine, some

NO_KINDS = (None, 5, "", "Paper", "papers", "paper ", b"paper", ("paper",), ["paper"], [], {}, True, 0, {"paper"}, "sheet")
QUESTIONS = (("paper", (SHIFT, (0,), (0, 0))), ("fault", (SHIFT, (0,), (0, 0), 2)), ("derivation", ((4, 5), 7)),
             ("walk", ((4, 5), 6)), ("against", ((5, 8), 9)))
# No questions, whatever the sheet's kind is.
NO_QUESTIONS = (None, 5, "abc", (), [], {}, True, (SHIFT,), ((4, 5),), (SHIFT, (0,), (0, 0), 2, 2), ((4, 5), 7, 7, 7, 7),
                [SHIFT, (0,), (0, 0)], [SHIFT, (0,), (0, 0), 2], [(4, 5), 7], (None, (0,), (0, 0)), (None, (0,), (0, 0), 2),
                (SHIFT.steps, (0,), (0, 0)), (2, (0,), (0, 0), 2), (SHIFT, (0,), (0, 0), True), (SHIFT, (0,), (0, 0), -1),
                (SHIFT, (0,), (0, 0), None), (SHIFT, (0,), (0, 0), 2.0), ((4, 5), True), ((4, 5), None), ((4, 5), (7,)),
                (7, (4, 5)), ((0,), (0, 0), SHIFT), ((0,), (0, 0), 2, SHIFT))


class Holds(Case):
    def test_one_of_each_kind(self):
        for value in (("paper", (SHIFT, (0,), (0, 0)), ((((3, 1),), 1), ((1, 3), (2, 3)))),
                      ("fault", (SHIFT, (0,), (0, 0), 1), (3, 2, 1)), ("fault", (SHIFT, [0], [0, 0], 1), (3, 2, 1)),
                      ("derivation", ((4, 5), 7), ((5, 5, 4), (6, 5, 4))), ("derivation", ([4, 5], 4), ()),
                      ("walk", ((4, 5), 6), (6, 1, 5, 0)), ("walk", ([4, 5], 0), (0,)),
                      ("against", ((4, 6), 5), Machine(2, [(0, 1), (1, 0)])),
                      ("against", ([5, 8], 9), machine_against((5, 8), 9))):
            self.assertIs(True, sheet_holds(value), value)

    def test_others_of_each_kind(self):
        for value in (("paper", (SHIFT, (0,), (0, 0)), (((), 1), ())), ("paper", (SHIFT, (0,), (0, 0)), None),
                      ("paper", (SHIFT, (0,), (0, 0)), ((((3, 1),), 1), [(1, 3), (2, 3)])),
                      ("paper", (SHIFT, (0,), (1,)), ((((3, 1),), 1), ((1, 3), (2, 3)))),
                      ("fault", (SHIFT, (0,), (0, 0), 1), (3, 1, 2)), ("fault", (SHIFT, (0,), (0, 0), 1), [3, 2, 1]),
                      ("fault", (SHIFT, (0,), (0, 0), 3), (3, 2, 1)), ("fault", (SHIFT, (0,), (0, 0), 3), None),
                      ("derivation", ((4, 5), 7), ((5, 5, 4),)), ("derivation", ((4, 5), 7), ()),
                      ("derivation", ((4, 5), 7), [(5, 5, 4), (6, 5, 4)]), ("derivation", ((5, 8), 9), None),
                      ("walk", ((4, 5), 6), (6, 5, 0)), ("walk", ((4, 5), 6), None), ("walk", ((4, 5), 6), [6, 1, 5, 0]),
                      ("against", ((4, 6), 5), Machine(2, [(0, 0), (1, 1)])), ("against", ((4, 6), 5), None),
                      ("against", ((4, 6), 8), Machine(2, [(0, 1), (1, 0)])),
                      ("against", ((4, 6), 5), Machine(1, [(0,), (1,)]))):
            self.assertIs(False, sheet_holds(value), value)

    def test_a_value_for_another_kind(self):
        for kind, question in QUESTIONS:
            answer = sheet(kind, question)[2]
            for other, asked in QUESTIONS:
                self.assertIs(other == kind, sheet_holds((other, asked, answer)))
                if other != kind and len(asked) != len(question):
                    self.assertIs(False, sheet_holds((other, question, answer)))

    def test_no_triples(self):
        for value in (None, 5, "abc", (), [], ("walk", ((4, 5), 6)), ["walk", ((4, 5), 6), (6, 1, 5, 0)],
                      ("walk", ((4, 5), 6), (6, 1, 5, 0), 0), {0: 1}, True, ((), (), ())):
            self.assertIs(False, sheet_holds(value))
        self.assertIs(True, sheet_holds(value=("walk", ((4, 5), 6), (6, 1, 5, 0))))

    def test_no_kinds_and_no_questions(self):
        for name in NO_KINDS:
            self.assertIs(False, sheet_holds((name, ((4, 5), 6), (6, 1, 5, 0))), name)
        for kind, good in QUESTIONS:
            answer = sheet(kind, good)[2]
            for question in NO_QUESTIONS:
                if len(good) != 3 or question != good:
                    self.assertIs(False, sheet_holds((kind, question, answer)), question)

    def test_errors_of_the_checking_function(self):
        for value in NO_SEQUENCES + ((2,), (True,), [None]):
            self.assertIs(False, sheet_holds(("paper", (SHIFT, value, (0, 0)), court_paper(SHIFT, (0,), (0, 0)))))
            self.assertIs(False, sheet_holds(("fault", (SHIFT, (0,), value, 1), (3, 2, 1))))
        for value in NO_COUNTS:
            self.assertIs(False, sheet_holds(("derivation", (value, 0), ())))
            self.assertIs(False, sheet_holds(("walk", (value, 0), (0,))))
            self.assertIs(False, sheet_holds(("against", (value, 1), Machine(2, [(0, 1), (0, 1)]))))

    def test_30_digits(self):
        ring = rings_machine((7,), (1,) * 7)
        self.assertIs(True, sheet_holds(("fault", (ring, (0,), (1,), LONG - 1), loop_fault(ring, (0,), (1,), LONG - 1))))
        self.assertIs(True, sheet_holds(("derivation", ((LONG, 3), LONG), ())))
        self.assertIs(True, sheet_holds(("derivation", ((2,), 2 * 10 ** 28), derivation((2,), 2 * 10 ** 28))))
        self.assertIs(True, sheet_holds(("against", ((2,), LONG), Machine(2, [(0, 1), (1, 0)]))))
        self.assertIs(True, sheet_holds(("walk", ((LONG,), LONG), (LONG, 0))))


class Made(Case):
    def check(self, kind, question):
        told = sheet(kind, question)
        self.told(3, len(told))
        self.assertIsInstance(told, tuple)
        self.told(kind, told[0])
        self.assertEqual(question, told[1])
        self.assertIsInstance(told[1], tuple)
        self.assertIs(True, sheet_holds(told))
        return told

    def test_one_of_each_kind(self):
        for kind, question in QUESTIONS:
            self.check(kind, question)
        self.check("fault", (SHIFT, [0], [0, 0], 2))
        self.check("paper", (SHIFT, [], [1]))
        self.check("derivation", ([4, 5], 10 ** 20))
        self.check("against", ([], 5))
        self.told(("walk", ((4, 5), 6), walk((4, 5), 6)), sheet(question=((4, 5), 6), name="walk"))

    def test_many_papers_and_faults(self):
        numbers = some(121)
        for machine in machines(122, 80):
            one, other = (0,), (1,) * numbers.randrange(3)
            self.check("paper", (machine, one, other))
            count = numbers.randrange(9)
            if loop_fault(machine, one, other, count) is None:
                self.refused(Refused, 2, sheet, "fault", (machine, one, other, count))
            else:
                self.check("fault", (machine, one, other, count))

    def test_many_counts(self):
        numbers = some(123)
        for _ in range(200):
            counts, count = [numbers.randrange(12) for _ in range(numbers.randrange(4))], numbers.randrange(25)
            if derivation(counts, count) is None:
                self.refused(Refused, 2, sheet, "derivation", (counts, count))
                self.refused(Refused, 2, sheet, "walk", (counts, count))
                self.check("against", (counts, count))
            else:
                self.check("derivation", (counts, count))
                self.check("walk", (counts, count))
                self.refused(Refused, 0, sheet, "against", (counts, count))

    def test_refusals(self):
        for name in NO_KINDS:
            self.refused(Refused, 0, sheet, name, ((4, 5), 6))
            self.refused(Refused, 0, sheet, name, None)
        for kind, good in QUESTIONS:
            for question in NO_QUESTIONS:
                if len(good) != 3 or question != good:
                    self.refused(Refused, 1, sheet, kind, question)
            for number in NO_NUMBERS:
                if kind != "paper":
                    self.refused(Refused, 1, sheet, kind, good[:-1] + (number,))

    def test_errors_of_the_function(self):
        self.refused(InvalidRow, 1, sheet, "paper", (SHIFT, (0, 2), (0, 7)))
        self.refused(InvalidRow, 2, sheet, "paper", (SHIFT, (0, 1), [0, 1, True]))
        self.refused(InvalidRow, 0, sheet, "fault", (SHIFT, (0, 1), None, 3))
        for value in NO_COUNTS:
            for kind in ("derivation", "walk", "against"):
                self.refused(InvalidQuestion, 0, sheet, kind, (value, 5))
        self.refused(Refused, 0, sheet, "against", ((4, 5), 9))
        self.refused(Refused, 2, sheet, "walk", ((5, 8), 9))
        self.refused(Refused, 2, sheet, "derivation", ((5, 8), 9))
        self.refused(Refused, 2, sheet, "fault", (SHIFT, (0,), (0, 0), 3))

    def test_lists_that_are_changed_afterwards(self):
        counts, row = [4, 5], [0]
        told, paper = sheet("walk", (counts, 6)), sheet("paper", (SHIFT, row, (0, 0)))
        counts.clear()
        row.append(9)
        self.assertEqual((([4, 5], 6), [0]), (told[1], paper[1][1]))
        self.told((True, True), (sheet_holds(told), sheet_holds(paper)))
        # What was told before is not changed by what is asked again.
        told[1][0].append(1)
        self.assertEqual([4, 5], sheet("walk", ([4, 5], 6))[1][0])

    def test_arguments_are_not_changed(self):
        counts = [8, 5, 0, 5]
        question = (counts, 13)
        for kind in ("derivation", "walk"):
            sheet(kind, question)
            sheet_holds((kind, question, None))
        self.told([8, 5, 0, 5], counts)
        self.assertIs(counts, question[0])


class Wrong(Case):
    def test_lists_and_tuples(self):
        good = [sheet(kind, question) for kind, question in QUESTIONS]
        self.told(((), (), ()), (wrong_sheets(good), wrong_sheets([]), wrong_sheets(())))
        mixed = [None, good[0], good[1][:2], good[2], list(good[3]), good[4], ("walk", ((4, 5), 6), None)]
        self.told((0, 2, 4, 6), wrong_sheets(mixed))
        self.told((0, 2, 4, 6), wrong_sheets(values=tuple(mixed)))
        self.told((0, 1, 2), wrong_sheets(good[2]))

    def test_no_sequences(self):
        for value in NO_SEQUENCES:
            self.refused(InvalidQuestion, 0, wrong_sheets, value)

    def test_machines_of_their_own(self):
        # What was told of one machine is not told of another one.
        one, other = sheet("fault", (SHIFT, (0,), (1,), 2)), sheet("fault", (SIX, (0,), (1,), 1))
        self.told((), wrong_sheets([one, other]))
        self.told((0, 1), wrong_sheets([(one[0], (SIX,) + one[1][1:], one[2]), (one[0], (SHIFT,) + other[1][1:], other[2])]))
