"""Desks: commands in words, done at a bench, and answers in words."""

from bodyforbody.bench import Bench
from bodyforbody.closing import closing
from bodyforbody.court import agreeing
from bodyforbody.errors import InvalidCommand
from bodyforbody.following import follows
from bodyforbody.machines import Machine
from bodyforbody.texts import numbers_of, numbers_text

FIGURES = 9
# For each command how many numbers it has, and whether there may be more; `agree` has a form of its own.
FORMS = {
    "machine": (2, True),
    "loop": (1, True),
    "body": (1, True),
    "take": (1, False),
    "effect": (0, False),
    "steps": (0, False),
    "closing": (0, True),
    "follows": (1, True),
    "undo": (0, False),
}


def words_of(command):
    """The words of any value, a text."""
    if not isinstance(command, str):
        raise InvalidCommand()
    # What has a newline, or is empty, is no number and no command's name, so it is refused as such.
    return command.split(" ")


def checked_numbers(words):
    """The numbers that the words are."""
    numbers = numbers_of(words, FIGURES)
    if numbers is None:
        raise InvalidCommand()
    return numbers


def numbers_for(name, words):
    """The numbers behind the name of a command, if there are as many as it wants."""
    if name not in FORMS:
        raise InvalidCommand()
    fewest, more = FORMS[name]
    if len(words) < fewest or (len(words) > fewest and not more):
        raise InvalidCommand()
    return checked_numbers(words)


def rows_told(words):
    """The two rows between which a bar stands."""
    if words.count("|") != 1:
        raise InvalidCommand()
    bar = words.index("|")
    return checked_numbers(words[:bar]), checked_numbers(words[bar + 1:])


def machine_told(numbers):
    """The machine of which the numbers of commands and states are told, then all steps."""
    commands, states = numbers[:2]
    if commands == 0 or states == 0 or len(numbers) != 2 + commands * states:
        raise InvalidCommand()
    return Machine(commands, [numbers[at:at + commands] for at in range(2, len(numbers), commands)])


def falling_text(falling):
    """The runs of a falling row, then its end, as words."""
    runs, end = falling
    return " ".join([f"{step}x{times}" for step, times in runs] + [str(end)])


def done_at(bench, name, numbers):
    """What is told of a command that is done at the bench."""
    if name == "effect":
        return numbers_text(bench.effect())
    if name == "steps":
        return str(bench.steps())
    if name == "undo":
        return "ok" if bench.undo() else "nothing"
    if name == "loop":
        bench.put(len(bench.program()), numbers[0], numbers[1:])
    elif name == "body":
        bench.exchange(numbers[0], numbers[1:])
    else:
        bench.take(numbers[0])
    return "ok"


class Desk:
    """A bench that is told of in words."""

    def __init__(self):
        self.bench = None

    def _wanted_bench(self):
        """The bench, which a command wants."""
        if self.bench is None:
            raise InvalidCommand()
        return self.bench

    def say(self, command):
        """Does a command and returns its answer."""
        words = words_of(command)
        name = words[0]
        if name == "agree":
            one, other = rows_told(words[1:])
            return falling_text(agreeing(self._wanted_bench().machine, one, other))
        numbers = numbers_for(name, words[1:])
        if name == "closing":
            return falling_text(closing(numbers))
        if name == "follows":
            return "yes" if follows(numbers[1:], numbers[0]) else "no"
        if name == "machine":
            self.bench = Bench(machine_told(numbers))
            return "ok"
        return done_at(self._wanted_bench(), name, numbers)
