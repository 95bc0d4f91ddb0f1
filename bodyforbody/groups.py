"""Several bodies on one machine, and at which counts which of them agree."""

from bodyforbody.basics import is_sequence
from bodyforbody.changes import change_of, done_times, latest_tail, shared_ring
from bodyforbody.closing import tellers
from bodyforbody.court import agreeing_changes
from bodyforbody.errors import InvalidQuestion, InvalidRow
from bodyforbody.falling import checked_falling
from bodyforbody.machines import is_row
from bodyforbody.rounds import folded
from bodyforbody.settled import settled_row


def body_changes(machine, bodies):
    """The changes of any value, a sequence of rows of the machine, not empty."""
    if not is_sequence(bodies) or len(bodies) == 0:
        raise InvalidQuestion(1)
    for index, body in enumerate(bodies):
        if not is_sequence(body) or not is_row(machine, tuple(body)):
            raise InvalidRow(index)
    return [change_of(machine, body) for body in bodies]


def grouped(keys):
    """The indexes of equal keys in one tuple each."""
    lots = {}
    for index, key in enumerate(keys):
        lots.setdefault(key, []).append(index)
    return tuple([tuple(lot) for lot in lots.values()])


def groups(machine, bodies, count):
    """The indexes of the bodies; those that agree at the count are in one tuple."""
    return grouped([done_times(change, count) for change in body_changes(machine, bodies)])


def groups_on(machine, bodies, falling):
    """The indexes of the bodies; those that agree at all counts of the set are in one tuple."""
    changes = body_changes(machine, bodies)
    row = checked_falling(falling, 2)
    start = latest_tail(changes)
    rings = shared_ring(changes)
    # Many tellers come to the same for these changes, and none is too great to be counted to.
    counts = sorted(set([folded(start, rings, count) for count in tellers(row)]))
    return grouped([tuple([done_times(change, count) for count in counts]) for change in changes])


def agreements(machine, bodies):
    """For each two indexes of bodies, the lesser one first, the falling row of the counts at which they agree."""
    changes = body_changes(machine, bodies)
    pairs = [(one, other) for other in range(len(changes)) for one in range(other)]
    return tuple([(one, other, agreeing_changes(changes[one], changes[other])) for one, other in sorted(pairs)])


def are_all_alike(changes, count):
    """Whether all changes, done so many times, are the same."""
    return len(set([done_times(change, count) for change in changes])) == 1


def all_agree(machine, bodies):
    """The falling row of the set of all counts at which all of the bodies agree."""
    changes = body_changes(machine, bodies)
    return settled_row(latest_tail(changes), shared_ring(changes), lambda count: are_all_alike(changes, count))
