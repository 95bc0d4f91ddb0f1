"""[35]: the middle of a machine."""

from bodyforbody.changes import loses
from bodyforbody.falling import is_falling
from bodyforbody.machines import Machine
from bodyforbody.middles import middle, middle_counts
from bodyforbody.orders import orders
from bodyforbody.turns import turns
from tests.helpers import (CHAIN, HUNDRED, IDLE, SHIFT, SIX, Case, few_changes, plain_members, plain_power, plain_shown,
                           rings_machine)


def plain_middle(machine):
    """The shown changes that may be exchanged with each other one."""
    changes = plain_shown(machine)
    return [one for one in changes if all(tuple(one[state] for state in other) == tuple(other[state] for state in one)
                                          for other in changes)]


class Middles(Case):
    def test_against_all_changes(self):
        for machine in few_changes(61, 150):
            kept = plain_middle(machine)
            self.told(tuple(kept), middle(machine))
            row = middle_counts(machine)
            self.assertIs(True, is_falling(row))
            wanted = [n for n in range(40) if all(plain_power(change, n) in kept for change in plain_shown(machine))]
            self.told(wanted, plain_members(row, 39))

    def test_nothing_lost(self):
        found = 0
        for machine in few_changes(62, 150):
            if not any(loses(column) for column in zip(*machine.steps)):
                self.told(turns(machine), middle_counts(machine))
                runs, end = orders(machine)
                self.told(((), 0), (runs, end % turns(machine)[1]))
                found += 1
        self.assertGreater(found, 20)

    def test_multiples_in_turns(self):
        for machine in few_changes(63, 80):
            counts = plain_members(middle_counts(machine), 12)
            told = plain_members(turns(machine), 48)
            for count in counts:
                self.assertTrue({2 * count, 3 * count, 4 * count} <= set(told))

    def test_the_plain_ones(self):
        self.told((((), 6), ((0, 1, 2),)), (middle_counts(SIX), middle(SIX)))
        self.told((((), 1), ((0, 1),)), (middle_counts(IDLE), middle(IDLE)))
        self.told((((2, 1),), 1), middle_counts(CHAIN))
        self.told(((), 0), middle_counts(SHIFT))
        self.told((((0, 1), (1, 0)), ((), 1)), (middle(machine=Machine(1, [(1,), (0,)])),
                                              middle_counts(machine=Machine(1, [(1,), (0,)]))))
        self.told(((), 1), middle_counts(rings_machine((2, 3), (2, 1, 1, 1))))

    def test_100_changes(self):
        self.told([2, 100], [len(middle(machine)) for machine in HUNDRED[:2]])
        self.told([((), 50), ((), 1), ((), 0)], [middle_counts(machine) for machine in HUNDRED])
