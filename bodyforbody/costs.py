"""Which of the bodies that agree costs least."""

from bodyforbody.basics import are_numbers, is_number_below, is_sequence, rounded_up
from bodyforbody.changes import done_times, latest_tail
from bodyforbody.court import agreeing_changes
from bodyforbody.errors import InvalidQuestion
from bodyforbody.falling import tells
from bodyforbody.groups import body_changes


def check_costs(costs, at, many):
    """Refuses what is no sequence of so many numbers, and then what is no index below their number."""
    if not is_sequence(costs) or len(costs) != many or not are_numbers(costs):
        raise InvalidQuestion(2)
    if not is_number_below(at, many):
        raise InvalidQuestion(3)


def cheapest(machine, bodies, costs, at, count):
    """Of the bodies that agree with this one at the count, the index of the first that costs least."""
    changes = body_changes(machine, bodies)
    check_costs(costs, at, len(changes))
    wanted = done_times(changes[at], count)
    return min([(costs[index], index) for index, change in enumerate(changes)
                if done_times(change, count) == wanted])[1]


def is_told(falling, others, count):
    """Whether the number is in the set of the falling row, and in no set of the others."""
    return tells(falling[0], falling[1], count) and not any([tells(runs, end, count) for runs, end in others])


def least_told(falling, others, start):
    """The least number from 1 on that is in the set and in none of the others, `None` without any.

    From `start` on each of the sets has just the multiples of its end, or nothing, if this is 0.
    """
    for count in range(1, start):
        if is_told(falling, others, count):
            return count
    end = falling[1]
    ends = [other[1] for other in others if other[1] > 0]
    if end == 0 or any([end % other == 0 for other in ends]):
        return None
    # Few numbers side by side can all be multiples of one of a few, so this soon comes to an end.
    count = rounded_up(max(start, 1), end)
    while any([count % other == 0 for other in ends]):
        count += end
    return count


def ever_cheapest(machine, bodies, costs, at):
    """The indexes that are the cheapest at some count from 1 on, each with the least such count."""
    changes = body_changes(machine, bodies)
    check_costs(costs, at, len(changes))
    start = latest_tail(changes)
    told = []
    better = []
    for _, index in sorted([(cost, index) for index, cost in enumerate(costs)]):
        falling = agreeing_changes(changes[at], changes[index])
        count = least_told(falling, better, start)
        if count is not None:
            told.append((index, count))
        better.append(falling)
    return tuple(sorted(told))
