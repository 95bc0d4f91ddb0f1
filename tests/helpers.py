"""What several tests need: refusals, plain counterparts of the package, machines to try."""

import unittest
from itertools import product
from random import Random

from bodyforbody.falling import is_falling, next_member
from bodyforbody.machines import Machine

NO_NUMBERS = (True, False, -1, 1.0, "1", None, (1,), [1], b"1")
NO_SEQUENCES = (None, 5, "12", {1: 2}, {1, 2}, b"12", True, range(2))
NO_FALLINGS = (None, 7, (), [(), 1], ((), True), ((), False), ((), -1), ((), 1, 1), ([], 1), ((), 1.0),
               (((2, 1),), 0), (((2, 1),), 2), (((2, 1),), 3), (((3, 1),), 2), (((3, 0),), 1), (((3, True),), 1),
               (((3, -1),), 1), (([3, 1],), 1), (((3, 1, 1),), 1), (((3, 1), (3, 1)), 1), (((2, 1), (3, 1)), 1),
               (((5, 1), (4, 1), (3, 1)), 1), ((3, 1), 1), "ab", (((3.0, 1),), 1), ((), None))
NO_COUNTS = NO_SEQUENCES + ((True,), [False], (1, -1), [2, "3"], (1.0,), ((),), (None,), [[1]])
# For a machine of four states.
NO_ROOMS = (None, 0, "0", (), [], [0], {0: 1}, (4,), (-1,), (0, 4), (1, 0), (0, 0), (0, 1, 1), (True,), (0, True),
            (False, 1), (0.0,), ("0",), ((0,),), (None,), range(2), b"\x00", (0, 10 ** 30))
NO_VIEWS = (None, 0, "0123", (), [], [0, 0, 1, 1], (0, 0, 1), (0, 0, 1, 1, 1), (0, 0, 1, 4), (0, 0, 1, -1),
            (0, 0, 1, True), (False, 1, 2, 3), (0, 0, 1, 1.0), (0, 0, 1, None), ((0,), 0, 1, 1),
            {0: 0, 1: 0, 2: 1, 3: 1}, range(4), b"\x00" * 4)
NO_ROUNDS = (None, 5, "abc", (), [0, 1, (0,)], (0, 1, [0]), (0, 1), (0, 1, (0,), 0), (0, 0, ()), (0, 0, (0,)),
             (5, 0, (0,)), (-1, 2, (0,)), (0, -1, ()), (True, 1, (0,)), (False, 1, (0,)), (0, True, (0,)),
             (0.0, 1, (0,)), (0, 1.0, (0,)), (0, 1, (1,)), (0, 1, (True,)), (0, 1, (False,)), (0, 2, (1, 0)),
             (0, 2, (0, 0)), (0, 2, (-1, 0)), (0, 2, (0, 2)), (1, 2, (0, 3)), (0, 2, (0.0, 1)), (0, 2, ("0",)),
             (0, 2, None), (0, 2, 0), (0, 2, ((0,),)), ((), 1, (0,)), (0, 2, {0: 1}), (0, None, (0,)),
             (0, 2, (0, True)))
NO_NESTS = (None, 7, 0, "n", "", [], [0], (1,), (True,), (False,), (0.0,), ("0",), (None,), ((),), (0, ()),
            (("n",),), (("n", ()), 1), (("n", (), 0),), (["n", (0,)],), (("n", [0]),), (("n", 0),), (("n", "n"),),
            (("n", None),), (("i", (0,)),), (("i", ()),), (("k", (0,)),), (("nm", (0,)),), (("", (0,)),),
            (("N", (0,)),), ((True, (0,)),), ((False, (0,)),), ((-1, (0,)),), ((1.0, (0,)),), ((None, (0,)),),
            ((("n",), (0,)),), ((b"n", (0,)),), (("n", (("n", (False,)),)),), (("n", (("n", [])),),), {0: 0},
            (("n", (("j", (0,)),)),), (0, 0, ("i", (0,))), ("n", (0,)), (("n", (0, ("i", [0]))),), {0}, b"\x00",
            (("n", (0,)), ("i", (("n", (0,)),))), range(1))
NO_KNOWNS = (None, 5, "abc", (), [0, 1, None], (0, 1), (0, 1, None, 0), (0, 0, None), (0, -1, None), (-1, 1, None),
             (True, 1, None), (False, 1, None), (0, True, None), (0, 1, True), (0, 1, False), (0, 1, -1), (0, 1, "0"),
             (0.0, 1, None), (0, 1.0, None), (0, 1, 0.0), (None, 1, 0), (0, None, 0), (0, 1, ()), ((0,), 1, None),
             {0: 1}, {0, 1}, range(3), b"\x00\x01\x02", (0, "1", None))
NO_MIXES = (None, 5, "012", [], [0, 1], {0: 1}, {0, 1}, range(2), b"\x00", (8,), (0, 8), (-1,), (True,), (False,),
            (0, True, 1), (0.0,), ("0",), (None,), ((0,),), (0, 10 ** 30), True)
SHIFT = Machine(2, [(0, 0), (0, 1), (1, 1), (2, 0)])
LONG = 10 ** 30 - 1


class Case(unittest.TestCase):
    """A test that also asks for an error with its class and its `at`."""

    def refused(self, error, at, call, *told, **named):
        with self.assertRaises(error) as caught:
            call(*told, **named)
        self.assertEqual(error, caught.exception.__class__)
        self.assertEqual(at, caught.exception.at)
        self.assertNotIsInstance(caught.exception.at, bool)

    def told(self, wanted, answer):
        """The very answer, and no list or bool in the place of a tuple or a number."""
        self.assertEqual(repr(wanted), repr(answer))


def some(seed):
    """The same numbers in every run of the tests."""
    return Random(seed)


def plain_closing(counts, bound):
    """All numbers up to the bound that x + y - z, done again and again, makes of the counts."""
    found = {0} | {count for count in counts if count <= bound}
    todo = list(found)
    while todo:
        new = todo.pop()
        for other in list(found):
            for third in list(found):
                for one, two, low in ((new, other, third), (other, third, new)):
                    made = one + two - low
                    if low <= min(one, two) and made <= bound and made not in found:
                        found.add(made)
                        todo.append(made)
    return sorted(found)


def plain_members(falling, bound):
    """The numbers of the set up to the bound, step by step."""
    runs, end = falling
    steps = [step for step, times in runs for _ in range(times)]
    members = [0]
    while members[-1] <= bound:
        step = steps[len(members) - 1] if len(members) <= len(steps) else end
        if step == 0:
            return members
        members.append(members[-1] + step)
    return members[:-1]


def plain_is_falling(steps, end):
    """Whether these steps, then the end for ever, are those of a closed set."""
    total = sum(steps)
    bound = 2 * total + 2 * end + 2
    members = plain_members((tuple((step, 1) for step in steps), end), bound)
    return all(x + y - z in members for x in members for y in members for z in members
               if z <= min(x, y) and x + y - z <= bound)


def runs_of(steps):
    """Equal steps side by side put in runs."""
    runs = []
    for step in steps:
        if runs and runs[-1][0] == step:
            runs[-1] = (step, runs[-1][1] + 1)
        else:
            runs.append((step, 1))
    return tuple(runs)


def rows_of_sum(total, end=1):
    """All falling rows with this end whose runs add this much, found by trying all falling steps."""
    found = []

    def go(steps, left):
        if left == 0:
            if plain_is_falling(steps, end):
                found.append((runs_of(steps), end))
            return
        for step in range(end + 1, min(left, steps[-1] if steps else left) + 1):
            go(steps + [step], left - step)

    go([], total)
    return found


def partitions(total, most):
    """All falling lots of numbers from 2 to `most` that sum up to the total."""
    if total == 0:
        return [()]
    return [(step,) + rest for step in range(2, min(total, most) + 1) for rest in partitions(total - step, step)]


def low_rows(height, end=1):
    """All falling rows with this end whose runs add so much at most, ascending, tried one by one."""
    lots = [lot for total in range(height // end + 1) for lot in partitions(total, total)]
    rows = [(runs_of([step * end for step in lot]), end) for lot in lots]
    return sorted([row for row in rows if is_falling(row)])


def steep_row(seed, many, end=1):
    """A falling row of so many runs, if none of its steps would have more than 30 digits."""
    numbers = some(seed)
    runs = ()
    while len(runs) < many:
        step = next_member((runs, end), (runs[0][0] if runs else end) + 1 + numbers.randrange(2))
        if step >= LONG:
            break
        runs = ((step, numbers.choice((1, 1, 1, 2))),) + runs
    return runs, end


def plain_power(change, count):
    """The change done so many times, one by one."""
    places = tuple(range(len(change)))
    for _ in range(count):
        places = tuple(change[place] for place in places)
    return places


def plain_row(machine, row, times=1):
    """Where the row, done so many times, leads each state, command by command."""
    places = list(range(machine.states))
    for _ in range(times):
        for command in row:
            places = [machine.steps[place][command] for place in places]
    return tuple(places)


def machines(seed, many, most=7):
    """Some small machines with two commands, some of which lose nothing."""
    numbers = some(seed)
    for at in range(many):
        states = numbers.randint(1, most)
        if at % 4 == 0:
            columns = [numbers.sample(range(states), states) for _ in range(2)]
        else:
            columns = [[numbers.randrange(states) for _ in range(states)] for _ in range(2)]
        yield Machine(2, list(zip(*columns)))


def rings_machine(one, other):
    """A machine without a loss: command 0 turns rings of the first lengths, command 1 those of the others."""
    columns = []
    for lengths in (one, other):
        column = []
        for length in lengths:
            base = len(column)
            column.extend([base + (at + 1) % length for at in range(length)])
        columns.append(column)
    return Machine(2, list(zip(*columns)))


def plain_shown(machine, most=200):
    """The changes of all rows, found by doing commands behind what is there; too many of them are not gone through."""
    found = {tuple(range(machine.states))}
    while True:
        more = found | {tuple(column[state] for state in change) for change in found for column in zip(*machine.steps)}
        if more == found or len(found) > most:
            return sorted(found)
        found = more


def few_changes(seed, many, most=60, states=5):
    """Some machines with one to three commands that show at most so many changes; some of them lose nothing."""
    numbers = some(seed)
    while many > 0:
        size = numbers.randint(1, states)
        columns = []
        for _ in range(numbers.randint(1, 3)):
            kind = numbers.randrange(3)
            if kind == 0:
                columns.append(numbers.sample(range(size), size))
            elif kind == 1:
                columns.append([numbers.randrange(size) for _ in range(size)])
            else:
                columns.append([min(size - 1, state + numbers.randrange(2)) for state in range(size)])
        machine = Machine(len(columns), list(zip(*columns)))
        if len(plain_shown(machine, most)) <= most:
            many -= 1
            yield machine


def turned_machine():
    """40 states, 6 commands, 100 changes: a ring of 25 is turned or reversed, 2 other states change places or do not."""
    turned = [(at + 1) % 25 for at in range(25)]
    reversed_ring = [-at % 25 for at in range(25)]
    idle = list(range(25))
    rest = list(range(27, 40))
    pairs = ((turned, [25, 26]), (reversed_ring, [25, 26]), (idle, [26, 25]), (turned, [26, 25]),
             (reversed_ring, [26, 25]), (idle, [25, 26]))
    return Machine(6, list(zip(*[ring + pair + rest for ring, pair in pairs])))


CHAIN = Machine(2, [(1, 5), (5, 2), (3, 5), (5, 4), (5, 5), (5, 5)])
SIX = Machine(2, [(1, 0), (0, 2), (2, 1)])
IDLE = Machine(3, [(0, 0, 0), (1, 1, 1)])
# These show 100 changes each, too.
HUNDRED = (turned_machine(), rings_machine((10,) + (1,) * 10, (1,) * 10 + (10,)),
           Machine(2, [(5, 7), (0, 3), (6, 5), (3, 3), (0, 5), (7, 4), (6, 3), (6, 1)]))


def plain_times(nest, n, m, ended=None):
    """How often a nest does its body, counted round by round."""
    total = 0
    for part in nest:
        if part == 0:
            total += 1
            continue
        rounds = {"n": n, "m": m, "i": ended}.get(part[0], part[0])
        total += sum(plain_times(part[1], n, m, ended=at) for at in range(rounds))
    return total


def some_nest(numbers, deep, inside=False):
    """A nest of few parts, with loops of all kinds in one another."""
    parts = []
    for _ in range(numbers.choice((0, 1, 1, 1, 2, 2, 3))):
        if deep == 0 or numbers.randrange(3) == 0:
            parts.append(0)
        else:
            kinds = ("n", "n", "m", "i", "i", 0, 1, 2, 3) if inside else ("n", "n", "m", 0, 1, 2, 3)
            parts.append((numbers.choice(kinds), some_nest(numbers, deep - 1, True)))
    return tuple(parts)


def random_row(numbers, end, many=3, spare=4):
    """A falling row with so many runs at most and this end, from 1 on."""
    runs = ()
    for _ in range(numbers.randrange(many + 1)):
        step = next_member((runs, end), (runs[0][0] if runs else end) + 1 + numbers.randrange(spare) * end)
        runs = ((step, numbers.choice((1, 1, 2, 3))),) + runs
    return runs, end


def mixes_of(bodies, length):
    """All mixes of this length, ascending."""
    return list(product(range(bodies), repeat=length))


def exchanged(mix, ways):
    """All mixes that one exchange of a told block makes of a mix; ways are triples (letter, other letter, count)."""
    for letter, other, count in ways:
        for at in range(len(mix) - count + 1):
            if count > 0 and mix[at:at + count] == (letter,) * count:
                yield mix[:at] + (other,) * count + mix[at + count:]


def plain_lots(mixes, ways):
    """The mixes, those that are led to one another by exchanges put in one lot."""
    lots, found = [], set()
    for mix in mixes:
        if mix in found:
            continue
        lot, todo = {mix}, [mix]
        while todo:
            new = [other for other in exchanged(todo.pop(), ways) if other not in lot]
            lot.update(new)
            todo.extend(new)
        lots.append(sorted(lot))
        found |= lot
    return lots


def ways_of(falling, bodies, length):
    """The exchanges of all blocks up to this length that the set of a falling row tells."""
    counts = [count for count in plain_members(falling, length) if count > 0]
    return [way for way in product(range(bodies), range(bodies), counts) if way[0] != way[1]]
