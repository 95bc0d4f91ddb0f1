"""What follows from told accords of bodies, whatever the machine is."""

from bodyforbody.basics import are_numbers, is_sequence, is_tuple_of
from bodyforbody.closing import closing
from bodyforbody.errors import InvalidQuestion
from bodyforbody.exchanging import exchanged, is_exchange
from bodyforbody.joined import both, together
from bodyforbody.mixes import is_block, is_mix

MOST_ACCORDS = 20
MOST_COUNTED = 60
MOST_LETTERS = 8


def is_accord(bodies, value):
    """Whether any value tells of two bodies a count at which they agree."""
    if not is_tuple_of(value, 3) or not are_numbers(value):
        return False
    return max(value[:2]) < bodies and value[2] <= MOST_COUNTED


def checked_accords(bodies, value):
    """Any value, a sequence of accords, not too many, as a tuple."""
    if not is_sequence(value) or len(value) > MOST_ACCORDS:
        raise InvalidQuestion(1)
    if not all([is_accord(bodies, accord) for accord in value]):
        raise InvalidQuestion(1)
    return tuple(value)


def checked_letters(bodies, value, at):
    """Any value, a short mix of so many bodies, as it is; `at` is the number of the argument."""
    if not is_mix(value, bodies) or len(value) > MOST_LETTERS:
        raise InvalidQuestion(at)
    return value


def told_counts(accords, bodies):
    """The counts at which two bodies are told to agree."""
    return [count for one, other, count in accords if (one, other) == bodies or (other, one) == bodies]


def told_rows(bodies, accords):
    """For each two bodies, the lesser one first, the closing of the counts told of them."""
    pairs = [(one, other) for other in range(bodies) for one in range(other)]
    return {pair: closing(told_counts(accords, pair)) for pair in pairs}


def row_of(rows, one, other):
    """The falling row that is told of two bodies."""
    return rows[(min(one, other), max(one, other))]


def handed_once(bodies, rows):
    """The falling rows with all counts that are handed on over one body between two others."""
    more = {}
    for one, other in rows:
        row = rows[(one, other)]
        for middle in range(bodies):
            if middle not in (one, other):
                row = together(row, both(row_of(rows, one, middle), row_of(rows, middle, other)))
        more[(one, other)] = row
    return more


def handed_on(bodies, accords):
    """For each two bodies the falling row of the counts that are told of them or handed on by the third one."""
    rows = told_rows(bodies, checked_accords(bodies, accords))
    more = handed_once(bodies, rows)
    # Closed sets that grow come to an end: their ends divide one another, and then there are but so many gaps.
    while more != rows:
        rows = more
        more = handed_once(bodies, rows)
    return tuple([(one, other, rows[(one, other)]) for one, other in sorted(rows)])


def exchange_ways(accords):
    """The letters before and behind an exchange, and its count, for each accord either way round."""
    ways = [(one, other, count) for one, other, count in accords if count > 0]
    return sorted(set(ways + [(other, one, count) for one, other, count in ways]))


def next_exchanges(mix, ways):
    """All exchanges of told blocks of the mix."""
    found = []
    for letter, other, count in ways:
        for at in range(len(mix) - count + 1):
            if mix[at] == letter and is_block(mix, at, count):
                found.append((at, count, other))
    return found


def ways_from(accords, mix):
    """All mixes that are alike to this one, each with the mix ahead of it and the exchange that leads to it."""
    ways = exchange_ways(accords)
    led = {mix: None}
    layer = [mix]
    while layer:
        found = []
        for before in layer:
            for at, count, letter in next_exchanges(before, ways):
                behind = exchanged(before, at, count, letter)
                if behind not in led:
                    led[behind] = (before, (at, count, letter))
                    found.append(behind)
        layer = found
    return led


def alike_mixes(bodies, accords, mix):
    """All mixes that do the same as this one wherever the bodies agree as told."""
    told = checked_accords(bodies, accords)
    return tuple(sorted(ways_from(told, checked_letters(bodies, mix, 2))))


def accord_exchanges(bodies, accords, one, other):
    """`None`, or some exchanges of told blocks that lead the first mix to the second."""
    told = checked_accords(bodies, accords)
    first = checked_letters(bodies, one, 2)
    place = checked_letters(bodies, other, 3)
    led = ways_from(told, first)
    if place not in led:
        return None
    done = []
    while led[place] is not None:
        place, exchange = led[place]
        done.append(exchange)
    return tuple(reversed(done))


def is_accord_exchanges(bodies, accords, one, other, value):
    """Whether any value is a tuple of exchanges of told blocks that lead the first mix to the second."""
    ways = exchange_ways(checked_accords(bodies, accords))
    mix = checked_letters(bodies, one, 2)
    goal = checked_letters(bodies, other, 3)
    if not isinstance(value, tuple):
        return False
    for exchange in value:
        if not is_exchange(mix, exchange):
            return False
        at, count, letter = exchange
        if (mix[at], letter, count) not in ways:
            return False
        mix = exchanged(mix, at, count, letter)
    return mix == goal
