"""Sheets: answers that can be checked, with what was asked."""

from bodyforbody.basics import is_number, is_sequence, is_tuple_of
from bodyforbody.built import is_against, machine_against
from bodyforbody.closing import derivation, is_derivation
from bodyforbody.court import is_loop_fault, loop_fault
from bodyforbody.errors import BodyError, InvalidQuestion, Refused
from bodyforbody.machines import Machine
from bodyforbody.papers import court_paper, is_court_paper
from bodyforbody.walks import is_walk, walk

# For each kind of sheet what its questions have, thing by thing.
QUESTIONS = {
    "paper": ("machine", "row", "row"),
    "fault": ("machine", "row", "row", "count"),
    "derivation": ("counts", "count"),
    "walk": ("counts", "count"),
    "against": ("counts", "count"),
}


def is_kind(value):
    """Whether any value is a kind of sheet."""
    return isinstance(value, str) and value in QUESTIONS


def is_asked_thing(word, value):
    """Whether any value may stand where a question has what the word tells."""
    if word == "machine":
        return isinstance(value, Machine)
    return word != "count" or is_number(value)


def is_question(kind, value):
    """Whether any value is a question for a kind of sheet."""
    words = QUESTIONS[kind]
    if not is_tuple_of(value, len(words)):
        return False
    return all([is_asked_thing(word, thing) for word, thing in zip(words, value)])


def answer_to(kind, question):
    """The value that a sheet of this kind has for a question, `None` without any."""
    if kind == "paper":
        return court_paper(*question)
    if kind == "fault":
        return loop_fault(*question)
    if kind == "derivation":
        return derivation(*question)
    if kind == "walk":
        return walk(*question)
    return machine_against(*question)


def is_answer(kind, question, value):
    """Whether any value is one that a sheet of this kind may have for a question."""
    if kind == "paper":
        return is_court_paper(*question, value)
    if kind == "fault":
        return is_loop_fault(*question, value)
    if kind == "derivation":
        return is_derivation(*question, value)
    if kind == "walk":
        return is_walk(*question, value)
    return is_against(*question, value)


def sheet_holds(value):
    """Whether any value is a sheet that holds."""
    if not is_tuple_of(value, 3) or not is_kind(value[0]) or not is_question(value[0], value[1]):
        return False
    kind, question, answer = value
    try:
        return is_answer(kind, question, answer)
    except BodyError:
        return False


def sheet(name, question):
    """A sheet of this kind that holds for the question."""
    if not is_kind(name):
        raise Refused(0)
    if not is_question(name, question):
        raise Refused(1)
    asked = tuple([list(thing) if isinstance(thing, list) else thing for thing in question])
    answer = answer_to(name, asked)
    if answer is None:
        raise Refused(2)
    return name, asked, answer


def wrong_sheets(values):
    """The indexes of those of a sequence that are no sheets that hold."""
    if not is_sequence(values):
        raise InvalidQuestion(0)
    return tuple([index for index, value in enumerate(values) if not sheet_holds(value)])
