"""[55] and [56]: desks, their commands and answers."""

from bodyforbody.bench import Bench
from bodyforbody.closing import closing
from bodyforbody.court import agreeing
from bodyforbody.desk import Desk
from bodyforbody.errors import InvalidCommand, InvalidMachine, InvalidQuestion, InvalidRow, Refused
from bodyforbody.machines import Machine
from tests.helpers import IDLE, SHIFT, SIX, Case, machines, some

TELL_SHIFT = "machine 2 4 0 0 0 1 1 1 2 0"
TELL_SIX = "machine 2 3 1 0 0 2 2 1"
# Each has one of the forms but for one thing.
WRONG = ("", " ", "  ", "effect ", " effect", "effect  ", "steps\n", "\n", "effect\nsteps", "loop 3  0", "loop  3 0",
         "loop 3 0 ", " loop 3 0", "loop 03 0", "loop 3 00", "loop 3 01", "take 00", "loop 1000000000 0", "loop 3 1000000000",
         "loop 9999999999", "take 0000000000", "loop +3 0", "loop -3 0", "loop 3 -0", "loop 3 +0", "take -1", "take +0",
         "jump", "Loop 3 0", "LOOP 3", "loops 3", "program", "put 0 3 0", "exchange 0 0", "could 0 0", "within", "len",
         "loop", "body", "take", "take 0 0", "take 0 1 2", "effect 0", "steps 0", "undo 0", "undo 1", "effect effect", "3",
         "0", "loop x", "loop 3 x", "loop 3 0x", "loop 3.0 0", "loop 3 0.0", "loop 1e3 0", "loop 1_0 0", "loop 0x3 0",
         "loop 3,0", "body 0 a", "take zero", "loop \u0663 0", "loop 3 \u0660", "take \u00b2", "take \uff10", "loop 3\t0",
         "loop\t3 0", "effect\t", "effect\r", "take 0\r", "take 0\x0b", "take 0\u2028", "agree", "agree 0 1", "agree 0",
         "agree 0 | 1 | 0", "agree | |", "agree || ", "agree 0|1", "agree 0 || 1", "agree 0 |1", "agree 0| 1",
         "agree 00 | 1", "agree 0 | -1", "agree x | 0", "agree 0 | 1000000000", "agree 0 |  1", "| 0", "|", "loop 3 |",
         "body 0 | 0", "take |", "closing |", "closing 5 | 8", "closing x", "closing 05", "closing -5", "closing 5  8",
         "closing 5 ", "closing 1000000000", "closing 5,8", "follows", "follows x", "follows 5 x", "follows 05 5",
         "follows 5 | 5", "follows  5", "follows 5 ", "follows 1000000000 1", "machine", "machine 2", "machine 2 4",
         "machine 2 4 0 0 0 1 1 1 2", "machine 2 4 0 0 0 1 1 1 2 0 0", "machine 0 4", "machine 2 0", "machine 0 0",
         "machine 0 1", "machine 1 0 0", "machine 0 4 0 0 0 0", "machine 01 1 0", "machine 1 01 0", "machine 1 1 00",
         "machine 1 1 -0", "machine 1 1 x", "machine  1 1 0", "machine 1 1 0 ", "machine 1 1 1000000000",
         "machine 999999999 999999999 0", "machine 1 1 | 0", "machine 1 1\n0", "machine 1 1 0\n", "read 1 1 0")
WANT_A_BENCH = ("loop 3 0", "loop 3", "body 0 0", "body 0", "take 0", "effect", "steps", "undo", "agree 0 | 1", "agree |",
                "agree 0 |", "agree 7 | 7", "loop 3 9")


def tell_machine(machine):
    """The command that tells a machine."""
    steps = " ".join(str(state) for entry in machine.steps for state in entry)
    return f"machine {machine.commands} {machine.states} {steps}"


def tell_row(row):
    """The words of a row, each with a space before it."""
    return "".join(f" {command}" for command in row)


def text_of(falling):
    return " ".join([f"{step}x{times}" for step, times in falling[0]] + [str(falling[1])])


class DeskCase(Case):
    def no_command(self, desk, command):
        before = self.state(desk)
        with self.assertRaises(InvalidCommand) as caught:
            desk.say(command)
        self.assertEqual(InvalidCommand, caught.exception.__class__)
        self.same(before, desk)

    def unchanged(self, error, at, desk, command):
        before = self.state(desk)
        self.refused(error, at, desk.say, command)
        self.same(before, desk)

    def state(self, desk):
        bench = desk.bench
        return bench, None if bench is None else (bench.machine.steps, bench.program(), len(bench), bench.effect())

    def same(self, before, desk):
        self.assertIs(before[0], desk.bench)
        self.told(before[1], self.state(desk)[1])

    def says(self, desk, command, wanted):
        answer = desk.say(command)
        self.assertIsInstance(answer, str)
        self.assertEqual(wanted, answer, command)


def with_bench(command=TELL_SHIFT):
    desk = Desk()
    desk.say(command)
    return desk


class Machines(DeskCase):
    def test_a_machine_is_told(self):
        desk = Desk()
        self.assertIsNone(desk.bench)
        self.says(desk, TELL_SHIFT, "ok")
        self.assertIsInstance(desk.bench, Bench)
        self.assertEqual(SHIFT, desk.bench.machine)
        self.told(((), 0), (desk.bench.program(), len(desk.bench)))
        for machine in (SIX, IDLE, Machine(1, [(0,)]), Machine(3, [(0, 1, 2), (2, 1, 0), (1, 1, 1)])):
            self.says(desk, tell_machine(machine), "ok")
            self.assertEqual(machine, desk.bench.machine)

    def test_once_more(self):
        desk = with_bench()
        desk.say("loop 3 0")
        elder = desk.bench
        self.says(desk, TELL_SHIFT, "ok")
        self.assertIsNot(elder, desk.bench)
        self.told(((), 0), (desk.bench.program(), len(desk.bench)))
        self.says(desk, "undo", "nothing")
        self.told((((3, (0,)),), 1), (elder.program(), len(elder)))

    def test_refused_machines(self):
        for command, at in (("machine 2 2 0 1 2 0", 3), ("machine 2 2 2 0 9 0", 2), ("machine 1 1 1", 2),
                            ("machine 1 1 999999999", 2), ("machine 2 3 0 0 0 0 0 3", 4), ("machine 4 1 0 0 0 1", 2)):
            desk = Desk()
            self.unchanged(InvalidMachine, at, desk, command)
            self.assertIsNone(desk.bench)
            desk = with_bench()
            desk.say("loop 3 0")
            self.unchanged(InvalidMachine, at, desk, command)
            self.says(desk, "steps", "3")

    def test_forty_states(self):
        machine = Machine(6, [[(state + command) % 40 for command in range(6)] for state in range(40)])
        desk = with_bench(tell_machine(machine))
        self.says(desk, "loop 1 5", "ok")
        self.says(desk, "effect", " ".join(str((state + 5) % 40) for state in range(40)))


class Deeds(DeskCase):
    def test_loops(self):
        desk = with_bench()
        self.says(desk, "loop 3 0", "ok")
        self.says(desk, "loop 0", "ok")
        self.says(desk, "loop 999999999 1 0 1", "ok")
        self.says(desk, "loop 2 0 0", "ok")
        self.told((((3, (0,)), (0, ()), (999999999, (1, 0, 1)), (2, (0, 0))), 4), (desk.bench.program(), len(desk.bench)))
        self.says(desk, "steps", str(3 + 3 * 999999999 + 4))
        self.unchanged(InvalidRow, 1, desk, "loop 3 0 2")
        self.unchanged(InvalidRow, 0, desk, "loop 3 999999999 2")

    def test_bodies(self):
        desk = with_bench()
        desk.say("loop 3 0")
        desk.say("loop 2 0")
        desk.say("loop 0 1 1")
        self.says(desk, "body 0 0 0", "ok")
        self.says(desk, "body 2", "ok")
        self.told(((3, (0, 0)), (2, (0,)), (0, ())), desk.bench.program())
        self.unchanged(Refused, 1, desk, "body 1 0 0")
        self.unchanged(Refused, 1, desk, "body 1")
        self.unchanged(InvalidQuestion, 0, desk, "body 3 0")
        self.unchanged(InvalidQuestion, 0, desk, "body 999999999 7")
        self.unchanged(InvalidRow, 2, desk, "body 0 0 1 2")

    def test_taking(self):
        desk = with_bench()
        for row in ("0", "1", "0 0"):
            desk.say("loop 1 " + row)
        self.says(desk, "take 1", "ok")
        self.says(desk, "take 1", "ok")
        self.told(((1, (0,)),), desk.bench.program())
        self.unchanged(InvalidQuestion, 0, desk, "take 1")
        self.says(desk, "take 0", "ok")
        self.unchanged(InvalidQuestion, 0, desk, "take 0")

    def test_effect_and_steps(self):
        desk = with_bench()
        self.says(desk, "effect", "0 1 2 3")
        self.says(desk, "steps", "0")
        desk.say("loop 2 0")
        self.says(desk, "effect", "0 0 0 1")
        self.says(desk, "steps", "2")
        desk.say("loop 5 1 1 0")
        self.says(desk, "steps", "17")
        self.says(desk, "effect", " ".join(str(state) for state in desk.bench.effect()))

    def test_undo(self):
        desk = with_bench()
        self.says(desk, "undo", "nothing")
        for command in ("loop 3 0", "loop 2 1", "body 0 0 0", "take 1"):
            desk.say(command)
        for program in (((3, (0, 0)), (2, (1,))), ((3, (0,)), (2, (1,))), ((3, (0,)),), ()):
            self.says(desk, "undo", "ok")
            self.told(program, desk.bench.program())
        self.says(desk, "undo", "nothing")

    def test_the_bench_itself(self):
        # What is done at the bench is told of at the desk.
        desk = with_bench(TELL_SIX)
        desk.bench.put(0, 10 ** 30, (0, 1))
        self.says(desk, "steps", str(2 * 10 ** 30))
        self.says(desk, "undo", "ok")
        self.says(desk, "effect", "0 1 2")


class Questions(DeskCase):
    def test_agree(self):
        desk = with_bench()
        self.says(desk, "agree 0 | 0 0", "3x1 1")
        self.says(desk, "agree 1 |", "0")
        self.says(desk, "agree | 1", "0")
        self.says(desk, "agree |", "1")
        self.says(with_bench(TELL_SIX), "agree 0 1 | 1 0", text_of(agreeing(SIX, (0, 1), (1, 0))))
        numbers = some(131)
        for machine in machines(132, 60):
            desk = with_bench(tell_machine(machine))
            one, other = [[numbers.randrange(2) for _ in range(numbers.randrange(4))] for _ in range(2)]
            self.says(desk, f"agree{tell_row(one)} |{tell_row(other)}", text_of(agreeing(machine, one, other)))

    def test_agree_refused(self):
        desk = with_bench()
        self.unchanged(InvalidRow, 1, desk, "agree 0 2 | 3")
        self.unchanged(InvalidRow, 2, desk, "agree 0 | 1 1 2")
        self.unchanged(InvalidRow, 0, desk, "agree 999999999 |")

    def test_closing(self):
        for desk in (Desk(), with_bench()):
            self.says(desk, "closing 5 8", "5x1 3x1 2x1 1")
            self.says(desk, "closing 12 18", "12x1 6")
            self.says(desk, "closing 18 0 12", "12x1 6")
            self.says(desk, "closing", "0")
            self.says(desk, "closing 0 0", "0")
            self.says(desk, "closing 4 5", "4x1 1")
            self.says(desk, "closing 999999999", "999999999")
            self.says(desk, "closing 3 999999998", "3x333333332 2x1 1")
            self.says(desk, "closing 100 101 103", text_of(closing((100, 101, 103))))

    def test_follows(self):
        for desk in (Desk(), with_bench()):
            for command, wanted in (("9 5 8", "no"), ("10 5 8", "yes"), ("0", "yes"), ("1", "no"), ("0 5", "yes"),
                                    ("5", "no"), ("5 5", "yes"), ("999999999 3", "yes"), ("999999998 3", "no"), ("6 0", "no")):
                self.says(desk, "follows " + command, wanted)

    def test_they_change_nothing(self):
        desk = with_bench()
        desk.say("loop 3 0")
        before = self.state(desk)
        for command in ("agree 0 | 0 0", "closing 5 8", "follows 9 5 8", "effect", "steps"):
            self.told(desk.say(command), desk.say(command=command))
            self.same(before, desk)


class NoCommands(DeskCase):
    def test_no_strings(self):
        for desk in (Desk(), with_bench()):
            for command in (None, 5, 0, True, b"effect", ["effect"], ("effect",), [], (), {}, ["loop", "3", "0"], 1.0, Desk):
                self.no_command(desk, command)

    def test_no_forms(self):
        desk = with_bench()
        desk.say("loop 3 0")
        for command in WRONG:
            self.no_command(Desk(), command)
            self.no_command(desk, command)

    def test_what_wants_a_bench(self):
        for command in WANT_A_BENCH:
            self.no_command(Desk(), command)
        desk = Desk()
        desk.say("closing 5 8")
        self.no_command(desk, "effect")
        with self.assertRaises(InvalidMachine):
            desk.say("machine 1 1 1")
        self.no_command(desk, "effect")

    def test_numbers_of_nine_figures(self):
        desk = with_bench()
        self.says(desk, "loop 123456789 0", "ok")
        self.no_command(desk, "loop 1234567890 0")
        self.no_command(desk, "follows 1234567890 5")
        self.says(desk, "follows 123456789 3", "yes")


class TwoDesks(DeskCase):
    def test_beside_one_another(self):
        one, other, third = with_bench(), with_bench(TELL_SIX), Desk()
        one.say("loop 3 0")
        self.says(other, "steps", "0")
        other.say("loop 2 1")
        self.says(one, "undo", "ok")
        self.says(one, "undo", "nothing")
        self.says(other, "steps", "2")
        self.assertIsNone(third.bench)
        self.no_command(third, "undo")
        self.says(one, "agree 0 | 0 0", "3x1 1")
        self.says(other, "agree 0 | 0 0", text_of(agreeing(SIX, (0,), (0, 0))))
        self.assertFalse(one == other or one == "" or one == with_bench())
