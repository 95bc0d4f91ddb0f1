"""The interface: each name stands in its file, with the told arguments."""

import ast
import unittest
from pathlib import Path

PACKAGE = Path(__file__).resolve().parent.parent / "bodyforbody"
INTERFACE = {
    "errors": "BodyError InvalidMachine(at) InvalidRow(at) InvalidChange(at) InvalidQuestion(at) InvalidText(at) "
              "Refused(at) InvalidCommand",
    "machines": "Machine(commands,steps) checked_row(machine,value)",
    "changes": "checked_change(states,value) followed(one,other) loses(change) power(change,count) tail(change) "
               "ring(change) least_count(change,count) change_of(machine,row) loop_end(machine,state,row,count) "
               "same_loops(machine,one,other,count)",
    "texts": "machine_text(machine) read_machine(text)",
    "falling": "is_falling(value) has(falling,count) member_at(falling,index) next_member(falling,count) "
               "members_between(falling,low,high)",
    "closing": "closing(counts) derivation(counts,count) is_derivation(counts,count,value) tellers(falling)",
    "beginnings": "beginning(falling,bound) is_beginning(value,bound)",
    "court": "agreeing(machine,one,other) loop_fault(machine,one,other,count) "
             "is_loop_fault(machine,one,other,count,value) reach(machine,one,other) settles(machine,one,other)",
    "papers": "court_paper(machine,one,other) is_court_paper(machine,one,other,value)",
    "repeats": "repeated(machine,row,times,others) repeated_by(tail,ring,times,others)",
    "walks": "hanging(counts,count) walk(counts,count) is_walk(counts,count,value) "
             "both_loops(machine,one,other,times,others)",
    "marks": "fits(mark,count) fitting(mark) mark_for(counts,count)",
    "built": "marked_machine(mark) machine_against(counts,count) is_against(counts,count,value) side_by_side(machines) "
             "set_marks(falling) set_machine(falling)",
}


def described(node):
    """The name of a function or class and its arguments."""
    if isinstance(node, ast.FunctionDef):
        return node.name + "(" + ",".join(arg.arg for arg in node.args.args) + ")"
    made = [row for row in node.body if isinstance(row, ast.FunctionDef) and row.name == "__init__"]
    if not made:
        return node.name
    return node.name + described(made[0])[len("__init__"):].replace("self,", "")


class Interface(unittest.TestCase):
    def test_each_stands_in_its_file(self):
        for name, wanted in INTERFACE.items():
            tree = ast.parse((PACKAGE / (name + ".py")).read_text())
            found = [described(node) for node in tree.body if isinstance(node, (ast.FunctionDef, ast.ClassDef))]
            for each in wanted.split():
                self.assertIn(each, found, name)
