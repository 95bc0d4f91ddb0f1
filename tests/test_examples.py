"""The examples of the document, with the very answers that it prints."""

from bodyforbody import seen
from bodyforbody.accords import accord_exchanges, alike_mixes, handed_on, is_accord_exchanges
from bodyforbody.asking import learned, next_question, possible_rows
from bodyforbody.beginnings import beginning, is_beginning
from bodyforbody.built import is_against, machine_against, marked_machine, set_machine, set_marks
from bodyforbody.carried import carried, carry_fault
from bodyforbody.changes import change_of, least_count, loop_end, loses, power, ring, same_loops, tail
from bodyforbody.closing import closing, is_derivation, tellers
from bodyforbody.costs import cheapest, ever_cheapest
from bodyforbody.counted import how_many
from bodyforbody.court import agreeing, is_loop_fault, loop_fault, reach, settles
from bodyforbody.exchanging import exchanges, is_exchanges
from bodyforbody.falling import has, member_at, members_between, next_member
from bodyforbody.following import follows, is_least_lot, is_weaker, parting
from bodyforbody.groups import all_agree, groups
from bodyforbody.joined import both, is_part, together
from bodyforbody.knowns import both_known
from bodyforbody.marks import fitting
from bodyforbody.middles import middle, middle_counts
from bodyforbody.mixcounts import kinds, short_runs
from bodyforbody.mixes import leftover, surely_alike, surely_pure
from bodyforbody.nests import body_times, degrees, nest_agrees, nest_closing, nest_fault, nest_tests, sure_from
from bodyforbody.orders import is_order_fault, moves, orders
from bodyforbody.papers import is_court_paper
from bodyforbody.repeats import repeated, repeated_by
from bodyforbody.rooms import crossed, holds_room, least_room, least_view
from bodyforbody.rounds import breach, round_falling, round_has, tidy
from bodyforbody.seen import seen_round
from bodyforbody.spreads import spread
from bodyforbody.tellings import sureness
from bodyforbody.trees import filled, greatest_gap, next_rows, without
from bodyforbody.turns import is_turn_fault, shown, turn_fault, turns
from bodyforbody.walks import hanging, walk
from tests.helpers import CHAIN, SHIFT, SIX, Case


class Chapter3(Case):
    def test_powers(self):
        self.told(((0, 0, 1, 2), 3, 1, (0, 0, 0, 1), True),
                  (change_of(SHIFT, (0,)), tail((0, 0, 1, 2)), ring((0, 0, 1, 2)), power((0, 0, 1, 2), 2),
                   same_loops(SHIFT, (0,), (0, 0), 3)))

    def test_loops(self):
        self.told((1, 1, False, False),
                  (loop_end(SHIFT, 3, (0,), 2), least_count((1, 2, 0), 10 ** 20), loses((1, 2, 0)),
                   same_loops(SHIFT, (0,), (0, 0), 2)))


class Chapter4(Case):
    def test_closings(self):
        self.told(((((5, 1), (3, 1), (2, 1)), 1), False, (((12, 1),), 6), ((), 0), (4, 5)),
                  (closing((5, 8)), has(closing([5, 8]), 9), closing((12, 18)), closing(()),
                   tellers(closing((4, 5, 6)))))

    def test_members(self):
        self.told((10, 8, 333333334),
                  (member_at(closing((5, 8)), 3), next_member(closing((5, 8)), 6),
                   members_between(closing((3, 10 ** 20)), 0, 10 ** 9)))

    def test_derivations_and_beginnings(self):
        self.told((True, (0, 5, 8, 10, 11), True),
                  (is_derivation((4, 5), 7, ((5, 5, 4), (6, 5, 4))),
                   beginning((((5, 1), (3, 1), (2, 1)), 1), 11), is_beginning((0, 5, 8, 9), 9)))

    def test_the_overview(self):
        self.told([0, 4, 5, 6, 7, 8], [n for n in range(9) if has(closing((4, 5)), n)])
        self.told([0, 5, 8, 10, 11, 12, 13], [n for n in range(14) if has(closing((5, 8)), n)])


class Chapter5(Case):
    def test_agreeing(self):
        self.told(((((3, 1),), 1), None, 3, ((), 0)),
                  (agreeing(SHIFT, (0,), (0, 0)), loop_fault(SHIFT, (0,), (0, 0), 3), reach(SHIFT, (0,), (1,)),
                   agreeing(SHIFT, (1,), ())))

    def test_settling_and_repeats(self):
        self.told((3, True, (((3, 1),), 1), (((4, 1),), 2)),
                  (settles(SHIFT, (0,), (0, 0)), is_loop_fault(SHIFT, (0,), (0, 0), 1, (3, 2, 1)),
                   repeated(SHIFT, (0,), 1, 2), repeated_by(5, 6, 2, 5)))

    def test_papers(self):
        self.told((True, False),
                  (is_court_paper(SHIFT, (0,), (0, 0), ((((3, 1),), 1), ((1, 3), (2, 3)))),
                   is_court_paper(SHIFT, (0,), (0, 0), (((), 1), ()))))


class Chapter6(Case):
    def test_walks_and_marks(self):
        self.told(((1, 4, 6, 9), (6, 1, 5, 0), None, (((5, 1), (3, 1), (2, 1)), 1)),
                  (hanging((5, 8), 9), walk((4, 5), 6), walk((5, 8), 9), fitting((1, 4, 6, 9))))

    def test_built_machines(self):
        self.told((((1, 1), (2, 5), (3, 3), (4, 4), (4, 4), (4, 4)), ((0, 1), (1, 0)), 4),
                  (marked_machine((2, 3)).steps, machine_against((4, 6), 5).steps, set_machine((((3, 1),), 1)).states))

    def test_sets(self):
        self.told((((1, 4, 6, 9),), True),
                  (set_marks((((5, 1), (3, 1), (2, 1)), 1)), is_against((5, 8), 9, machine_against((5, 8), 9))))


class Chapter7(Case):
    def test_what_follows(self):
        self.told((False, True, 9, True, True),
                  (follows((5, 8), 9), follows((5, 8), 11), parting((5, 8), (5, 8, 9)), is_weaker((10, 15), (5,)),
                   is_least_lot((6, 10, 4, 15), 22, (0, 1))))

    def test_tellings(self):
        self.told(((((), 2), ((), 6), (((2, 2),), 1), (((4, 1),), 1), (((4, 1),), 2)), None, None),
                  (possible_rows((6,), (3,), 4), sureness((6,), (3,), 9), sureness((6,), (3,), 8)))

    def test_asking(self):
        self.told((2, (((), 2), ((2, True), (3, False), (5, False)))),
                  (next_question((4,), (), 4), learned(lambda count: count % 2 == 0, 4, 4)))


class Chapter8(Case):
    def test_two_sets(self):
        self.told(((((6, 1),), 3), (((4, 1),), 2), True, (((4, 1), (2, 1)), 1)),
                  (both((((4, 1),), 1), ((), 3)), together(((), 6), (((4, 1),), 2)), is_part(((), 6), ((), 3)),
                   without((((4, 1),), 1), 5)))

    def test_neighbours_and_how_many(self):
        row = (((5, 1), (3, 1), (2, 1)), 1)
        self.told((9, (((5, 1), (3, 1)), 1), ((((2, 1),), 1),), 17),
                  (greatest_gap(row), filled(row), next_rows(((), 1)), how_many(12)))


class Chapter9(Case):
    def test_a_chain(self):
        self.told((9, (((3, 1),), 1), True, None, (((2, 1),), 1)),
                  (len(shown(CHAIN)), turns(CHAIN), is_turn_fault(CHAIN, 2, ((0,), (1,), 0)), turn_fault(CHAIN, 3),
                   middle_counts(CHAIN)))

    def test_all_orders_of_three_states(self):
        self.told((((), 6), ((), 6), ((0, 1, 2),), ((), 1), ((), 3)),
                  (turns(SIX), orders(SIX), middle(SIX), carried(SIX, (0, 1), (0,), (1, 0)),
                   carried(SIX, (0, 1), (1, 0, 1), (0, 1))))

    def test_faults_and_moves(self):
        self.told((True, None, None),
                  (is_order_fault(SIX, 1, ((0, 0, 1), (0, 1, 0), 0)), moves((5, 7), (7, 7)),
                   carry_fault(CHAIN, (0,), (1,), (1,), 10 ** 20)))


class Chapter10(Case):
    def test_rooms_and_views(self):
        self.told(((0, 1, 2), (0, 0, 2, 3), True),
                  (least_room(SHIFT, (2,), (0,)), least_view(SHIFT, (0, 0, 1, 1), (0,)),
                   holds_room(SHIFT, (1, 2), (1,))))

    def test_rounds(self):
        self.told(((2, 1, (0, 1)), (0, 1), (3, 2, (0, 4))),
                  (seen_round(SHIFT, (2,), (0, 1, 2, 3), (0,), (1,)), breach((2, 1, (0, 1))), tidy((3, 4, (0, 4, 6)))))
        self.told((True, (((4, 1),), 2), True),
                  (crossed(SHIFT, (1, 2), (0, 0, 2, 3), (0,), (1,)), round_falling((4, 2, (0, 4))),
                   round_has((3, 2, (0, 4)), 10 ** 20)))

    def test_what_is_shown(self):
        machine, room, view = seen.shown((2, 1, (0, 1)), 1)
        self.told((True, (2, 1, (0, 1))),
                  (room == tuple(range(machine.states)), seen_round(machine, room, view, (0,), (1,))))


class Chapter11(Case):
    SQUARE, STAIRS = (("n", (("n", (0,)),)),), (("n", (("i", (0,)),)),)

    def test_nests(self):
        self.told((10, (2, 0), (6, 12, 1)),
                  (body_times(self.STAIRS, 5, 0), degrees(self.STAIRS), both_known((2, 4, None), (0, 6, 3))))
        self.told(((2, 0), 3), (nest_fault(SHIFT, (0,), (0, 0), self.STAIRS, (0, 1, None), (0, 1, 0)),
                                sure_from(SHIFT, (0,), (0, 0), self.STAIRS, 0)))

    def test_fewest_tests_and_spreads(self):
        self.told(((((4, 2),), 1), ((2, 0), (3, 0))),
                  (nest_closing(self.SQUARE, (2, 1, None), (0, 1, 0)), nest_tests(self.SQUARE, (2, 1, None), (0, 1, 0))))
        self.told(((1, (((3, 1),), 1)), True),
                  (spread((((5, 1), (3, 1), (2, 1)), 1), 2, 3),
                   nest_agrees(SHIFT, (0,), (0, 0), self.SQUARE, 10 ** 9, 0)))

    def test_what_is_said_of_knowns(self):
        self.told((7, 1, 5), both_known((5, 1, None), (7, 1, 5)))
        self.told((11, 8, None), both_known((3, 8, None), (5, 1, None)))


class Chapter12(Case):
    SOME = (((3, 1), (2, 1)), 1)

    def test_mixes(self):
        self.told(((6, ()), (0, (0, 0, 1, 1, 0, 0)), False),
                  (leftover(self.SOME, (0, 1, 1, 1, 0, 1)), leftover(self.SOME, (0, 0, 1, 1, 0, 0)),
                   surely_alike(self.SOME, (0, 1, 1, 1), (1, 0, 0, 0))))

    def test_kinds(self):
        self.told((True, 12, 10, 1), (surely_pure(self.SOME, (0, 0, 0, 0, 1, 1)), kinds(self.SOME, 2, 4),
                                      short_runs(2, 4, 2), kinds(((), 1), 2, 100)))

    def test_exchanges(self):
        self.told((True, None), (is_exchanges(((), 2), (0, 1, 1), (1, 1, 0), ((1, 2, 0), (0, 2, 1))),
                                 exchanges(((), 2), (0, 1), (1, 0))))


class Chapter13(Case):
    SOME = ((0, 1, 5), (0, 2, 3), (1, 2, 4), (1, 2, 7))

    def test_groups_and_costs(self):
        self.told((((0,), (1,), (2,)), ((0, 1), (2,)), (((3, 1),), 1)),
                  (groups(SHIFT, [(0,), (0, 0), (1,)], 2), groups(SHIFT, [(0,), (0, 0), (1,)], 3),
                   all_agree(SHIFT, [(0,), (0, 0)])))
        self.told((1, ((0, 1), (1, 3))), (cheapest(SHIFT, [(0, 0), (0,)], [2, 1], 0, 3),
                                          ever_cheapest(SHIFT, [(0, 0), (0,)], [2, 1], 0)))

    def test_accords(self):
        self.told((((0, 1, ((), 2)), (0, 2, ((), 6)), (1, 2, ((), 3))), None, ((0, 0, 1), (1, 0, 0), (1, 1, 1))),
                  (handed_on(3, ((0, 1, 2), (1, 2, 3))), accord_exchanges(3, self.SOME, (0,) * 7, (1,) * 7),
                   alike_mixes(2, [(0, 1, 2)], (0, 0, 1))))
        self.told(True, is_accord_exchanges(3, self.SOME, (0,) * 8, (1,) * 8,
                                            ((0, 5, 1), (5, 3, 2), (1, 4, 2), (1, 7, 1))))

    def test_what_is_not_handed_on(self):
        mixes = [tuple("abc".index(letter) for letter in word) for word in ("aaaaaaaa", "bbbbbccc", "bccccccc", "bbbbbbbb")]
        for one, other in zip(mixes, mixes[1:]):
            self.assertIn(other, alike_mixes(3, self.SOME, one))
        self.assertIs(False, has(handed_on(3, self.SOME)[0][2], 8))
