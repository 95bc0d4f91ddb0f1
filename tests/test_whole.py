"""[1] and [2] over the whole program: every function of the interface is asked with lists, twice, and by name."""

from copy import deepcopy
from importlib import import_module

from bodyforbody.bench import Bench
from bodyforbody.built import marked_machine
from bodyforbody.desk import Desk
from bodyforbody.errors import BodyError
from bodyforbody.machines import Machine
from tests.helpers import CHAIN, SHIFT, SIX, Case
from tests.test_interface import INTERFACE

ROW = (((5, 1), (3, 1), (2, 1)), 1)
ALWAYS = (0, 1, None)
SQUARE = (("n", (("n", (0,)),)),)
ROUND = (3, 4, (0, 4, 6))
ACCORDS = [(0, 1, 5), (0, 2, 3), (1, 2, 4), (1, 2, 7)]
PARTED = Machine(2, [(0, 1), (1, 0)])
# For each function some arguments; `SHIFT` stands where any machine may.
CALLS = {
    "machines": {"checked_row": (SHIFT, [0, 1])},
    "changes": {"checked_change": (3, (0, 1, 1)), "followed": ((0, 0), (1, 0)), "loses": ((0, 0),),
                "power": ((1, 2, 0), 10 ** 29), "tail": ((0, 0, 1, 2),), "ring": ((1, 2, 0),),
                "least_count": ((1, 2, 0), 10 ** 20), "change_of": (SHIFT, [0, 1]), "loop_end": (SHIFT, 3, [0], 2),
                "same_loops": (SHIFT, [0], [0, 0], 3)},
    "texts": {"machine_text": (SHIFT,), "read_machine": ("machine 1 2\n0\n0",)},
    "falling": {"is_falling": (ROW,), "has": (ROW, 9), "member_at": (ROW, 3), "next_member": (ROW, 6),
                "members_between": (ROW, 0, 99)},
    "closing": {"closing": ([5, 8],), "derivation": ([4, 5], 7), "is_derivation": ([4, 5], 7, ((5, 5, 4), (6, 5, 4))),
                "tellers": (ROW,)},
    "beginnings": {"beginning": (ROW, 12), "is_beginning": ((0, 5, 8, 9), 9)},
    "court": {"agreeing": (SHIFT, [0], [0, 0]), "loop_fault": (SHIFT, [0], [0, 0], 2),
              "is_loop_fault": (SHIFT, [0], [0, 0], 1, (3, 2, 1)), "reach": (SHIFT, [0], [1]),
              "settles": (SHIFT, [0], [0, 0])},
    "papers": {"court_paper": (SHIFT, [0], [0, 0]),
               "is_court_paper": (SHIFT, [0], [0, 0], ((((3, 1),), 1), ((1, 3), (2, 3))))},
    "repeats": {"repeated": (SHIFT, [0], 1, 2), "repeated_by": (5, 6, 2, 5)},
    "walks": {"hanging": ([5, 8], 9), "walk": ([4, 5], 6), "is_walk": ([4, 5], 6, (6, 1, 5, 0)),
              "both_loops": (SHIFT, [0], [1], 2, 3)},
    "marks": {"fits": ((1, 4, 6, 9), 5), "fitting": ((1, 4, 6, 9),), "mark_for": ([5, 8], 9)},
    "built": {"marked_machine": ((2, 3),), "machine_against": ([5, 8], 9), "is_against": ([4, 6], 5, PARTED),
              "side_by_side": ([PARTED, SHIFT],), "set_marks": (ROW,), "set_machine": (ROW,)},
    "following": {"follows": ([5, 8], 9), "is_weaker": ([10, 15], [5]), "parting": ([5, 8], [5, 8, 9]),
                  "is_least_lot": ([6, 10, 4, 15], 22, (0, 1)), "least_lot": ([6, 10, 4, 15], 22)},
    "tellings": {"is_possible": ([6], [3]), "sureness": ([6], [3], 9)},
    "asking": {"possible_rows": ([6], [3], 4), "next_question": ([4], [], 4),
               "learned": (lambda count: count % 2 == 0, 4, 4)},
    "joined": {"is_part": (((), 6), ((), 3)), "both": (ROW, ((), 3)), "together": (((), 6), ROW)},
    "trees": {"without": (ROW, 5), "one_less": (ROW,), "greatest_gap": (ROW,), "filled": (ROW,), "path": (ROW,),
              "next_rows": (((), 1),)},
    "counted": {"how_many": (12,), "row_at": (12, 3), "index_of": (ROW,)},
    "turns": {"shown": (SHIFT,), "turns": (SHIFT,), "turn_fault": (SHIFT, 1), "is_turn_fault": (CHAIN, 2, ((0,), (1,), 0))},
    "orders": {"orders": (SHIFT,), "order_fault": (SHIFT, 1), "is_order_fault": (SIX, 1, ((0, 0, 1), (0, 1, 0), 0)),
               "moves": ((5, 7, 6), (7, 6, 5))},
    "carried": {"carried": (SHIFT, [0, 1], [0], [1, 0]), "carry_fault": (SHIFT, [0], [1], [1], 2)},
    "middles": {"middle": (SHIFT,), "middle_counts": (SHIFT,)},
    "rooms": {"holds_room": (SHIFT, (1, 2), [1]), "least_room": (SHIFT, (2,), [0]),
              "holds_view": (SHIFT, (0, 0, 1, 1), [0]), "least_view": (SHIFT, (0, 0, 1, 1), [0]),
              "crossed": (SHIFT, (1, 2), (0, 0, 2, 3), [0], [1])},
    "rounds": {"round_has": (ROUND, 6), "tidy": (ROUND,), "breach": ((2, 1, (0, 1)),), "round_falling": (ROUND,)},
    "seen": {"seen_alike": (SHIFT, (2,), (0, 1, 2, 3), [0], [1], 1), "seen_round": (SHIFT, (2,), (0, 1, 2, 3), [0], [1]),
             "shown": ((2, 1, (0, 1)), 1)},
    "nests": {"body_times": (SQUARE, 5, 0), "degrees": (SQUARE,), "nest_agrees": (SHIFT, [0], [0, 0], SQUARE, 9, 0),
              "nest_fault": (SHIFT, [0], [0, 0], SQUARE, ALWAYS, ALWAYS), "sure_from": (SHIFT, [0], [0, 0], SQUARE, 0),
              "nest_closing": (SQUARE, (2, 1, None), ALWAYS), "nest_tests": (SQUARE, (2, 1, None), ALWAYS)},
    "knowns": {"both_known": ((2, 4, None), (0, 6, 3))},
    "spreads": {"spread": (ROW, 2, 3)},
    "mixes": {"leftover": (ROW, (0, 1, 1, 1, 0, 1)), "surely_alike": (ROW, (0, 1), (1, 0)), "surely_pure": (ROW, (0, 0))},
    "mixcounts": {"kinds": (ROW, 2, 9), "short_runs": (2, 4, 2)},
    "exchanging": {"exchanges": (((), 2), (0, 1, 1), (1, 1, 0)),
                   "is_exchanges": (((), 2), (0, 1, 1), (1, 1, 0), ((1, 2, 0), (0, 2, 1)))},
    "mixers": {"mixer": (((), 2), 2, 3)},
    "groups": {"groups": (SHIFT, [[0], (0, 0)], 3), "groups_on": (SHIFT, [[0], (0, 0)], ROW),
               "agreements": (SHIFT, [[0], [1]]), "all_agree": (SHIFT, [[0], [0, 0]])},
    "costs": {"cheapest": (SHIFT, [[0, 0], (0,)], [2, 1], 0, 3), "ever_cheapest": (SHIFT, [[0, 0], (0,)], [2, 1], 0)},
    "accords": {"handed_on": (3, ACCORDS), "alike_mixes": (3, ACCORDS, (0, 0, 0)),
                "accord_exchanges": (3, ACCORDS, (0,) * 8, (1,) * 8),
                "is_accord_exchanges": (3, ACCORDS, (0,) * 5, (1,) * 5, ((0, 5, 1),))},
    "partings": {"parting_machine": (3, ACCORDS, (0,) * 7, (1,) * 7),
                 "is_parting_machine": (2, [(0, 1, 2)], (0,), (1,), PARTED)},
    "sheets": {"sheet_holds": (("walk", ([4, 5], 6), (6, 1, 5, 0)),), "sheet": ("walk", ([4, 5], 6)),
               "wrong_sheets": ([("walk", ([4, 5], 6), (6, 1, 5, 0)), None],)},
}
WHETHER = ("is_", "has", "holds_", "same_", "fits", "follows", "loses", "crossed", "round_has", "seen_alike", "nest_agrees",
           "surely_", "sheet_holds")


def function(module, name):
    return getattr(import_module("bodyforbody." + module), name)


def calls():
    return [(module, name, told) for module, row in CALLS.items() for name, told in row.items()]


def shape(value):
    """What a value has in it, all the way down, with the kinds of things."""
    if isinstance(value, Machine):
        return "machine", value.commands, value.states, shape(value.steps)
    if isinstance(value, (list, tuple)):
        return value.__class__.__name__, [shape(each) for each in value]
    return value.__class__.__name__, value


def has_list(value):
    return isinstance(value, list) or isinstance(value, tuple) and any(has_list(each) for each in value)


def parameters(module, name):
    told = [each for each in INTERFACE[module].split() if each.split("(")[0] == name][0]
    return told.split("(")[1].rstrip(")").split(",")


class Calls(Case):
    def test_none_is_left_out(self):
        for module, wanted in INTERFACE.items():
            if module not in ("errors", "bench", "desk"):
                names = [each.split("(")[0] for each in wanted.split() if each != "Machine(commands,steps)"]
                self.assertEqual(sorted(names), sorted(CALLS[module]), module)

    def test_asked_again(self):
        for module, name, told in calls():
            call = function(module, name)
            first = shape(call(*told))
            self.assertEqual(first, shape(call(*deepcopy(told))), name)
            self.assertEqual(first, shape(call(*told)), name)

    def test_by_name(self):
        for module, name, told in calls():
            named = dict(reversed(list(zip(parameters(module, name), told))))
            self.assertEqual(len(told), len(named), name)
            self.assertEqual(shape(function(module, name)(*told)), shape(function(module, name)(**named)), name)

    def test_arguments_are_not_changed(self):
        for module, name, told in calls():
            before = shape(told)
            function(module, name)(*told)
            self.assertEqual(before, shape(told), name)

    def test_answers_are_in_tuples(self):
        for module, name, told in calls():
            if name != "sheet":
                self.assertFalse(has_list(function(module, name)(*told)), name)

    def test_whether_is_told_by_true_or_false(self):
        for module, name, told in calls():
            if name.startswith(WHETHER):
                self.assertIn(function(module, name)(*told), (True, False), name)
                self.assertIsInstance(function(module, name)(*told), bool, name)

    def test_each_machine_has_its_own(self):
        # In turn of two machines that have as many states; each is told what a new equal one is told.
        other = Machine(2, [(1, 3), (2, 0), (0, 0), (3, 3)])
        unlike = 0
        for module, name, told in calls():
            if told[0] == SHIFT:
                call = function(module, name)
                answers = [shape(call(machine, *told[1:])) for machine in (SHIFT, other, SHIFT, other)]
                again = [shape(call(Machine(2, list(machine.steps)), *told[1:])) for machine in (other, SHIFT)]
                self.assertEqual(answers[:2], answers[2:], name)
                self.assertEqual(answers[:2], again[::-1], name)
                unlike += answers[0] != answers[1]
        self.assertGreater(unlike, 20)

    def test_lists_that_are_changed_afterwards(self):
        steps, entry = [(0, 0), (0, 1)], [1, 1]
        machine = Machine(2, steps + [entry])
        entry[0] = 0
        steps.clear()
        self.told(((0, 0), (0, 1), (1, 1)), machine.steps)
        for module, name, told in calls():
            copied = deepcopy(told)
            answer = function(module, name)(*copied)
            before = shape(answer)
            for thing in copied:
                if isinstance(thing, list):
                    thing.clear()
            self.assertEqual(before, shape(answer), name)


class Objects(Case):
    def test_equal_to_nothing_of_another_kind(self):
        things = [SHIFT, Machine(1, [(0,)]), Bench(SHIFT), Desk(), BodyError()]
        others = [None, 0, 1, "", (), [], {}, SHIFT.steps, (2, SHIFT.steps), True, False]
        for thing in things:
            for other in others + [each for each in things if each.__class__ != thing.__class__]:
                self.assertFalse(thing == other)
                self.assertFalse(other == thing)
                self.assertTrue(thing != other)
        self.assertTrue(SHIFT == Machine(2, [list(entry) for entry in SHIFT.steps]) and SHIFT != SIX)
        self.assertTrue(marked_machine((2, 3)) == marked_machine((2, 3)))

    def test_attributes_are_there_at_once(self):
        self.assertEqual({"commands": 2, "states": 4, "steps": SHIFT.steps}, vars(SHIFT))
        self.assertIs(SHIFT, vars(Bench(SHIFT))["machine"])
        self.assertIsNone(vars(Desk())["bench"])
