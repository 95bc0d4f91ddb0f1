"""The examples of the document, with the very answers that it prints."""

from bodyforbody.beginnings import beginning, is_beginning
from bodyforbody.built import is_against, machine_against, marked_machine, set_machine, set_marks
from bodyforbody.changes import change_of, least_count, loop_end, loses, power, ring, same_loops, tail
from bodyforbody.closing import closing, is_derivation, tellers
from bodyforbody.court import agreeing, is_loop_fault, loop_fault, reach, settles
from bodyforbody.falling import has, member_at, members_between, next_member
from bodyforbody.marks import fitting
from bodyforbody.papers import is_court_paper
from bodyforbody.repeats import repeated, repeated_by
from bodyforbody.walks import hanging, walk
from tests.helpers import SHIFT, Case


class Chapter3(Case):
    def test_powers(self):
        self.told(((0, 0, 1, 2), 3, 1, (0, 0, 0, 1), True),
                  (change_of(SHIFT, (0,)), tail((0, 0, 1, 2)), ring((0, 0, 1, 2)), power((0, 0, 1, 2), 2),
                   same_loops(SHIFT, (0,), (0, 0), 3)))

    def test_loops(self):
        self.told((1, 1, False, False),
                  (loop_end(SHIFT, 3, (0,), 2), least_count((1, 2, 0), 10 ** 20), loses((1, 2, 0)),
                   same_loops(SHIFT, (0,), (0, 0), 2)))


class Chapter4(Case):
    def test_closings(self):
        self.told(((((5, 1), (3, 1), (2, 1)), 1), False, (((12, 1),), 6), ((), 0), (4, 5)),
                  (closing((5, 8)), has(closing([5, 8]), 9), closing((12, 18)), closing(()),
                   tellers(closing((4, 5, 6)))))

    def test_members(self):
        self.told((10, 8, 333333334),
                  (member_at(closing((5, 8)), 3), next_member(closing((5, 8)), 6),
                   members_between(closing((3, 10 ** 20)), 0, 10 ** 9)))

    def test_derivations_and_beginnings(self):
        self.told((True, (0, 5, 8, 10, 11), True),
                  (is_derivation((4, 5), 7, ((5, 5, 4), (6, 5, 4))),
                   beginning((((5, 1), (3, 1), (2, 1)), 1), 11), is_beginning((0, 5, 8, 9), 9)))

    def test_the_overview(self):
        self.told([0, 4, 5, 6, 7, 8], [n for n in range(9) if has(closing((4, 5)), n)])
        self.told([0, 5, 8, 10, 11, 12, 13], [n for n in range(14) if has(closing((5, 8)), n)])


class Chapter5(Case):
    def test_agreeing(self):
        self.told(((((3, 1),), 1), None, 3, ((), 0)),
                  (agreeing(SHIFT, (0,), (0, 0)), loop_fault(SHIFT, (0,), (0, 0), 3), reach(SHIFT, (0,), (1,)),
                   agreeing(SHIFT, (1,), ())))

    def test_settling_and_repeats(self):
        self.told((3, True, (((3, 1),), 1), (((4, 1),), 2)),
                  (settles(SHIFT, (0,), (0, 0)), is_loop_fault(SHIFT, (0,), (0, 0), 1, (3, 2, 1)),
                   repeated(SHIFT, (0,), 1, 2), repeated_by(5, 6, 2, 5)))

    def test_papers(self):
        self.told((True, False),
                  (is_court_paper(SHIFT, (0,), (0, 0), ((((3, 1),), 1), ((1, 3), (2, 3)))),
                   is_court_paper(SHIFT, (0,), (0, 0), (((), 1), ()))))


class Chapter6(Case):
    def test_walks_and_marks(self):
        self.told(((1, 4, 6, 9), (6, 1, 5, 0), None, (((5, 1), (3, 1), (2, 1)), 1)),
                  (hanging((5, 8), 9), walk((4, 5), 6), walk((5, 8), 9), fitting((1, 4, 6, 9))))

    def test_built_machines(self):
        self.told((((1, 1), (2, 5), (3, 3), (4, 4), (4, 4), (4, 4)), ((0, 1), (1, 0)), 4),
                  (marked_machine((2, 3)).steps, machine_against((4, 6), 5).steps, set_machine((((3, 1),), 1)).states))

    def test_sets(self):
        self.told((((1, 4, 6, 9),), True),
                  (set_marks((((5, 1), (3, 1), (2, 1)), 1)), is_against((5, 8), 9, machine_against((5, 8), 9))))
