"""What the works is made of: machines, bays, and the state that holds them all."""

from sortingbelts.mixes import NOTHING

BAYS = 6
MACHINES = 5
MOST_HELD = 1000000


class Machine:
    """Its belts lead to a bay by the bay's number, to a machine by the machine's number and BAYS."""

    def __init__(self, most, setting):
        self.most = most
        self.settings = (setting,)
        self.chosen = 0
        self.belts = (0, 1)

    def copied(self):
        twin = Machine(self.most, NOTHING)
        twin.settings = self.settings
        twin.chosen = self.chosen
        twin.belts = self.belts
        return twin


class Bay:
    def __init__(self):
        self.kind = 0
        self.pure = 0
        self.price = 0
        self.most = MOST_HELD
        self.mix = NOTHING

    def copied(self):
        twin = Bay()
        twin.kind = self.kind
        twin.pure = self.pure
        twin.price = self.price
        twin.most = self.most
        twin.mix = self.mix
        return twin


class State:
    """All that a change can change, so that going back is nothing but taking an earlier state.

    Each bale is a tuple: its bay, its mix, what it brought.
    """

    def __init__(self, harm):
        self.harm = harm
        self.hopper = NOTHING
        self.machines = []
        self.bays = [Bay() for i in range(BAYS)]
        self.bales = []
        self.fed = NOTHING
        self.dumped = NOTHING
        self.cost = 0

    def copied(self):
        twin = State(self.harm)
        twin.hopper = self.hopper
        twin.machines = [machine.copied() for machine in self.machines]
        twin.bays = [bay.copied() for bay in self.bays]
        twin.bales = list(self.bales)
        twin.fed = self.fed
        twin.dumped = self.dumped
        twin.cost = self.cost
        return twin
