"""The interface: each name stands in its file, with the told arguments."""

import ast
import re
import unittest
from importlib import import_module
from pathlib import Path

PACKAGE = Path(__file__).resolve().parent.parent / "bodyforbody"
INTERFACE = {
    "errors": "BodyError InvalidMachine(at) InvalidRow(at) InvalidChange(at) InvalidQuestion(at) InvalidText(at) "
              "Refused(at) InvalidCommand",
    "machines": "Machine(commands,steps) checked_row(machine,value)",
    "changes": "checked_change(states,value) followed(one,other) loses(change) power(change,count) tail(change) "
               "ring(change) least_count(change,count) change_of(machine,row) loop_end(machine,state,row,count) "
               "same_loops(machine,one,other,count)",
    "texts": "machine_text(machine) read_machine(text)",
    "falling": "is_falling(value) has(falling,count) member_at(falling,index) next_member(falling,count) "
               "members_between(falling,low,high)",
    "closing": "closing(counts) derivation(counts,count) is_derivation(counts,count,value) tellers(falling)",
    "beginnings": "beginning(falling,bound) is_beginning(value,bound)",
    "court": "agreeing(machine,one,other) loop_fault(machine,one,other,count) "
             "is_loop_fault(machine,one,other,count,value) reach(machine,one,other) settles(machine,one,other)",
    "papers": "court_paper(machine,one,other) is_court_paper(machine,one,other,value)",
    "repeats": "repeated(machine,row,times,others) repeated_by(tail,ring,times,others)",
    "walks": "hanging(counts,count) walk(counts,count) is_walk(counts,count,value) "
             "both_loops(machine,one,other,times,others)",
    "marks": "fits(mark,count) fitting(mark) mark_for(counts,count)",
    "following": "follows(counts,count) is_weaker(one,other) parting(one,other) is_least_lot(counts,count,value) "
                 "least_lot(counts,count)",
    "tellings": "is_possible(yes,no) sureness(yes,no,count)",
    "asking": "possible_rows(yes,no,height) next_question(yes,no,height) learned(ask,count,height)",
    "joined": "is_part(one,other) both(one,other) together(one,other)",
    "trees": "without(falling,count) one_less(falling) greatest_gap(falling) filled(falling) path(falling) "
             "next_rows(falling)",
    "counted": "how_many(total) row_at(total,index) index_of(falling)",
    "turns": "shown(machine) turns(machine) turn_fault(machine,count) is_turn_fault(machine,count,value)",
    "orders": "orders(machine) order_fault(machine,count) is_order_fault(machine,count,value) moves(one,other)",
    "carried": "carried(machine,one,row,other) carry_fault(machine,one,row,other,count)",
    "middles": "middle(machine) middle_counts(machine)",
    "rooms": "holds_room(machine,room,row) least_room(machine,room,row) holds_view(machine,view,row) "
             "least_view(machine,view,row) crossed(machine,room,view,one,other)",
    "rounds": "round_has(value,count) tidy(value) breach(value) round_falling(value)",
    "seen": "seen_alike(machine,room,view,one,other,count) seen_round(machine,room,view,one,other) shown(value,kind)",
    "built": "marked_machine(mark) machine_against(counts,count) is_against(counts,count,value) side_by_side(machines) "
             "set_marks(falling) set_machine(falling)",
    "nests": "body_times(nest,n,m) degrees(nest) nest_agrees(machine,one,other,nest,n,m) "
             "nest_fault(machine,one,other,nest,known,other_known) sure_from(machine,one,other,nest,m) "
             "nest_closing(nest,known,other_known) nest_tests(nest,known,other_known)",
    "knowns": "both_known(one,other)",
    "spreads": "spread(falling,times,plus)",
    "mixes": "leftover(falling,mix) surely_alike(falling,one,other) surely_pure(falling,mix)",
    "mixcounts": "kinds(falling,bodies,length) short_runs(bodies,length,most)",
    "exchanging": "exchanges(falling,one,other) is_exchanges(falling,one,other,value)",
    "mixers": "mixer(falling,bodies,length)",
    "groups": "groups(machine,bodies,count) groups_on(machine,bodies,falling) agreements(machine,bodies) "
              "all_agree(machine,bodies)",
    "costs": "cheapest(machine,bodies,costs,at,count) ever_cheapest(machine,bodies,costs,at)",
    "accords": "handed_on(bodies,accords) alike_mixes(bodies,accords,mix) accord_exchanges(bodies,accords,one,other) "
               "is_accord_exchanges(bodies,accords,one,other,value)",
    "partings": "parting_machine(bodies,accords,one,other) is_parting_machine(bodies,accords,one,other,value)",
    "bench": "Bench(machine)",
    "sheets": "sheet_holds(value) sheet(name,question) wrong_sheets(values)",
    "desk": "Desk()",
}

METHODS = {
    "bench": "__len__(self) program(self) effect(self) steps(self) put(self,at,count,row) take(self,at) could(self,at,row) "
             "exchange(self,at,row) undo(self) within(self,work)",
    "desk": "say(self,command)",
}


def described(node):
    """The name of a function or class and its arguments."""
    if isinstance(node, ast.FunctionDef):
        return node.name + "(" + ",".join(arg.arg for arg in node.args.args) + ")"
    made = [row for row in node.body if isinstance(row, ast.FunctionDef) and row.name == "__init__"]
    if not made:
        return node.name
    return node.name + described(made[0])[len("__init__"):].replace("self,", "").replace("self", "")


class Interface(unittest.TestCase):
    def test_each_stands_in_its_file(self):
        for name, wanted in INTERFACE.items():
            tree = ast.parse((PACKAGE / (name + ".py")).read_text())
            found = [described(node) for node in tree.body if isinstance(node, (ast.FunctionDef, ast.ClassDef))]
            for each in wanted.split():
                self.assertIn(each, found, name)

    def test_each_can_be_imported(self):
        for name, wanted in INTERFACE.items():
            module = import_module("bodyforbody." + name)
            for each in wanted.split():
                self.assertEqual(module.__name__, getattr(module, each.split("(")[0]).__module__)

    def test_methods_stand_in_their_class(self):
        for name, wanted in METHODS.items():
            tree = ast.parse((PACKAGE / (name + ".py")).read_text())
            rows = [row for node in tree.body if isinstance(node, ast.ClassDef) for row in node.body]
            found = [described(row) for row in rows if isinstance(row, ast.FunctionDef)]
            for each in wanted.split():
                self.assertIn(each, found, name)

    def test_it_has_all_that_the_document_lists(self):
        document = PACKAGE.parent.parent / "shared" / "DOC.md"
        if not document.exists():
            self.skipTest("the document is not here")
        lines = document.read_text().split("\n# The interface")[1].split("\n## bodyforbody/")[1:]
        told = {each.split(".py")[0]: re.findall("`([A-Za-z_]+)[(`]", each.split("\n", 1)[1]) for each in lines}
        wanted = {name: [each.split("(")[0] for each in row.split()] for name, row in INTERFACE.items()}
        self.assertEqual(sorted(told), sorted(wanted))
        for name, names in wanted.items():
            self.assertLessEqual(set(names), set(told[name]), name)
            if name not in ("machines", "bench", "desk"):
                self.assertEqual(sorted(names), sorted(told[name]), name)
