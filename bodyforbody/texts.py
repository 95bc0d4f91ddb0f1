"""Machines as texts."""

from bodyforbody.errors import InvalidText
from bodyforbody.machines import Machine

DIGITS = "0123456789"
FIGURES = 2


def numbers_text(numbers):
    """The numbers as words of one line."""
    return " ".join([str(number) for number in numbers])


def machine_text(machine):
    """A line for the machine, then a line for each of its states."""
    lines = [f"machine {machine.commands} {machine.states}"]
    for entry in machine.steps:
        lines.append(numbers_text(entry))
    return "\n".join(lines)


def is_plain_number(word, figures):
    """Whether a word is a number in so many figures at most, as it is written."""
    if len(word) == 0 or len(word) > figures or not all([letter in DIGITS for letter in word]):
        return False
    return len(word) == 1 or word[0] != "0"


def numbers_of(words, figures):
    """The numbers that the words are, in so many figures at most; `None` if one is none."""
    if not all([is_plain_number(word, figures) for word in words]):
        return None
    return tuple([int(word) for word in words])


def read_sizes(line):
    """The numbers of commands and states that the first line tells."""
    words = line.split(" ")
    sizes = numbers_of(words[1:], FIGURES)
    if len(words) != 3 or words[0] != "machine" or sizes is None or 0 in sizes:
        raise InvalidText(0)
    return sizes


def read_entry(line, at, commands, states):
    """The next states that the line with this index tells."""
    entry = numbers_of(line.split(" "), FIGURES)
    if entry is None or len(entry) != commands or max(entry) >= states:
        raise InvalidText(at)
    return entry


def read_machine(text):
    """The machine that has exactly this text."""
    if not isinstance(text, str):
        raise InvalidText(0)
    lines = text.split("\n")
    commands, states = read_sizes(lines[0])
    entries = [read_entry(line, 1 + at, commands, states) for at, line in enumerate(lines[1:1 + states])]
    if len(lines) != 1 + states:
        raise InvalidText(min(len(lines), 1 + states))
    return Machine(commands, entries)
