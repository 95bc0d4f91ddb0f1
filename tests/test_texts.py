"""[9]: machines as texts."""

from bodyforbody.errors import InvalidText
from bodyforbody.machines import Machine
from bodyforbody.texts import machine_text, read_machine
from tests.helpers import SHIFT, Case, machines


class Texts(Case):
    def test_the_text(self):
        self.told("machine 2 4\n0 0\n0 1\n1 1\n2 0", machine_text(SHIFT))
        self.told("machine 1 1\n0", machine_text(machine=Machine(1, [(0,)])))

    def test_there_and_back(self):
        for machine in machines(6, 60, 30):
            self.assertEqual(machine, read_machine(machine_text(machine)))
        for machine in (SHIFT, Machine(6, [[39] * 6] * 40), Machine(99, [[98] * 99] * 99)):
            self.assertEqual(machine, read_machine(text=machine_text(machine)))

    def test_no_string(self):
        for value in (None, 5, b"machine 1 1\n0", ["machine 1 1", "0"], True, ()):
            self.refused(InvalidText, 0, read_machine, value)

    def test_the_first_line(self):
        for line in ("", "machine", "machine 1", "machine 1 1 1", "machine 0 1", "machine 1 0", "machine 01 1",
                     "machine 1 01", "machine  1 1", "machine 1 1 ", " machine 1 1", "Machine 1 1", "machine 1\t1",
                     "machine 100 1", "machine 1 100", "machine -1 1", "machine +1 1", "machine a 1", "machine 1 1\r",
                     "machine \u0661 1", "machine 1 \u00b2", "1 1", "machine 1_0 1", "machin 1 1"):
            self.refused(InvalidText, 0, read_machine, line + "\n0")
            self.refused(InvalidText, 0, read_machine, line)

    def test_a_state_line(self):
        for line in ("", "0", "0 1 1", "0 2", "0 -1", "0  1", "0 1 ", " 0 1", "0 01", "00 1", "0,1", "0 x", "0 \u0661",
                     "0 100", "0\t1", "0 1\r"):
            self.refused(InvalidText, 1, read_machine, "machine 2 2\n" + line + "\n0 1")
            self.refused(InvalidText, 2, read_machine, "machine 2 2\n0 1\n" + line)
            self.refused(InvalidText, 1, read_machine, "machine 2 2\n" + line)

    def test_missing_and_further_lines(self):
        self.refused(InvalidText, 1, read_machine, "machine 1 2")
        self.refused(InvalidText, 2, read_machine, "machine 1 2\n0")
        self.refused(InvalidText, 3, read_machine, "machine 1 2\n0\n1\n")
        self.refused(InvalidText, 3, read_machine, "machine 1 2\n0\n1\n0\n7")
        self.refused(InvalidText, 2, read_machine, "machine 1 1\n0\n")

    def test_the_first_of_several(self):
        self.refused(InvalidText, 0, read_machine, "machine 0 2\nx")
        self.refused(InvalidText, 1, read_machine, "machine 1 3\nx\ny")
        self.refused(InvalidText, 2, read_machine, "machine 1 2\n0\n2\n0")
