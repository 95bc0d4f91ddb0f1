"""[5]: machines and rows."""

from bodyforbody.errors import InvalidMachine, InvalidRow
from bodyforbody.machines import Machine, checked_row
from tests.helpers import NO_NUMBERS, NO_SEQUENCES, SHIFT, Case


class Machines(Case):
    def test_attributes_are_numbers_and_tuples(self):
        for steps in ([[0, 1], [1, 0], [2, 2]], ((0, 1), (1, 0), (2, 2)), [(0, 1), [1, 0], (2, 2)]):
            machine = Machine(2, steps)
            self.told((2, 3, ((0, 1), (1, 0), (2, 2))), (machine.commands, machine.states, machine.steps))

    def test_arguments_by_name(self):
        self.assertEqual(Machine(1, [(0,)]), Machine(steps=((0,),), commands=1))
        self.told((0,), checked_row(value=[0], machine=Machine(1, [(0,)])))

    def test_the_least_and_the_greatest(self):
        self.told(((0,),), Machine(1, [[0]]).steps)
        self.assertEqual(40, Machine(6, [[39] * 6] * 40).states)

    def test_later_changes_have_no_effect(self):
        entry = [0, 1]
        steps = [entry, [1, 1]]
        machine = Machine(2, steps)
        entry[0] = 1
        steps.append([0, 0])
        self.told((2, ((0, 1), (1, 1))), (machine.states, machine.steps))
        self.assertEqual([[1, 1], [1, 1], [0, 0]], steps)

    def test_wrong_commands(self):
        for commands in NO_NUMBERS + (0,):
            self.refused(InvalidMachine, 0, Machine, commands, [(0,)])

    def test_wrong_steps(self):
        for steps in NO_SEQUENCES + ((), []):
            self.refused(InvalidMachine, 1, Machine, 1, steps)

    def test_the_first_wrong_state(self):
        for entry in NO_SEQUENCES + ((), (0,), (0, 0, 0), (0, 2), (0, -1), (True, 0), (0, False), ("0", 0), (0, None)):
            self.refused(InvalidMachine, 2, Machine, 2, [entry, (0, 0)])
            self.refused(InvalidMachine, 3, Machine, 2, [(0, 1), entry])
        self.refused(InvalidMachine, 3, Machine, 1, [(0,), (3,), (4,)])
        self.refused(InvalidMachine, 2, Machine, 10 ** 9, [(0,)])

    def test_the_order_of_refusals(self):
        self.refused(InvalidMachine, 0, Machine, True, [])
        self.refused(InvalidMachine, 0, Machine, 0, [(7,)])
        self.refused(InvalidMachine, 1, Machine, 1, ())

    def test_equal(self):
        machine = Machine(2, [(0, 1), (1, 1)])
        self.assertTrue(machine == Machine(2, ([0, 1], [1, 1])))
        self.assertFalse(machine != Machine(2, ([0, 1], [1, 1])))
        self.assertFalse(machine == Machine(2, [(0, 1), (0, 1)]))
        self.assertFalse(Machine(1, [(0,)]) == Machine(1, [(0,), (1,)]))
        self.assertFalse(Machine(1, [(0,)]) == Machine(2, [(0, 0)]))

    def test_equal_to_no_value_of_another_kind(self):
        class Alike:
            commands, states, steps = 1, 1, ((0,),)
        machine = Machine(1, [(0,)])
        for value in (Alike(), ((0,),), (1, ((0,),)), None, 1, "machine 1 1\n0"):
            self.assertIs(False, machine == value)
            self.assertIs(True, machine != value)


class Rows(Case):
    def test_a_row_is_a_new_tuple(self):
        told = [0, 1, 1]
        row = checked_row(SHIFT, told)
        told.append(0)
        self.told((0, 1, 1), row)
        self.told((1, 0), checked_row(SHIFT, (1, 0)))
        self.told((), checked_row(SHIFT, []))
        self.told((), checked_row(SHIFT, ()))
        self.assertEqual(1000, len(checked_row(SHIFT, [1] * 1000)))

    def test_no_sequence(self):
        for value in NO_SEQUENCES:
            self.refused(InvalidRow, 0, checked_row, SHIFT, value)

    def test_the_first_entry_that_is_no_command(self):
        for wrong in NO_NUMBERS + (2, 10 ** 30):
            self.refused(InvalidRow, 0, checked_row, SHIFT, [wrong])
            self.refused(InvalidRow, 2, checked_row, SHIFT, (0, 1, wrong, -5))
