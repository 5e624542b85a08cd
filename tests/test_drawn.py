"""Lines of all calls, drawn at random, held against the ledger answer by answer."""

import random
import unittest

from tests.calls import (
    HIGHEST, play, so_again, so_back, so_bale, so_bales, so_bay, so_belt, so_belts, so_best, so_dump, so_feed, so_goes,
    so_hopper, so_in, so_loads, so_look, so_machine, so_money, so_often, so_pure, so_return, so_run, so_setting, so_sets,
    so_split, so_start, so_state, so_sums, so_take, so_turn, so_worth, so_would,
)
from tests.ledger import Ledger


class Drawing:
    """Calls with numbers about the edges; mostly such as are taken."""

    def __init__(self, seed):
        self.draw = random.Random(seed)

    def one(self, *choices):
        return self.draw.choice(choices)

    def number(self, below, edge):
        """Mostly one of those below, at times the edge or more."""
        return self.draw.randrange(below) if self.draw.random() < 0.95 else self.one(edge, edge + 1, HIGHEST)

    def shares(self):
        if self.draw.random() < 0.04:
            return [self.one(1000, 1001, HIGHEST) for kind in range(6)]
        return [self.one(900, 999, 1000)] + [self.one(0, 1, 250, 500, 900, 999, 1000, 1000) for kind in range(5)]

    def mix(self):
        most = self.one(1, 3, 30, 300, 3000, 10001, 10002)
        return [self.one(0, self.draw.randrange(most)) for kind in range(6)]

    def bay(self):
        return self.one(0, 1, self.number(6, 6))

    def machine(self):
        return self.number(5, 5)

    def a_bay(self):
        pure = self.one(0, 100, 300, 600, 900, 1000, 1000, 1001)
        most = self.one(1000000, 1000000, 1000000, 50000, 5000, 500, 0, 1000001)
        return so_bay(self.bay(), self.one(0, 0, self.number(6, 6)), pure, self.one(0, 1, 999, 5000, 10000, 10001), most)

    def building(self):
        return self.one(
            lambda: so_machine(self.one(0, 1, 2000, 50000, 1000000, 1000000, 1000001), self.shares()),
            lambda: so_setting(self.machine(), self.shares()),
            lambda: so_turn(self.machine(), self.number(3, 3)),
            lambda: so_belt(self.machine(), self.number(2, 2), self.number(11, 11)),
            self.a_bay,
        )()

    def working(self):
        return self.one(
            lambda: so_feed(self.mix()), lambda: so_feed(self.mix()), so_run, so_run, so_run, so_run,
            lambda: so_bale(self.bay()), lambda: so_bale(self.bay()), lambda: so_dump(self.bay(), self.number(1001, 1001)),
            lambda: so_return(self.bay()), so_take,
        )()

    def asking(self):
        return self.one(
            lambda: so_would(self.bay()), so_loads, lambda: so_pure(self.bay()), so_best, lambda: so_often(self.bay()),
            lambda: so_often(self.bay()), lambda: so_goes(self.number(6, 6), self.number(100001, 100001)),
            lambda: so_split(self.machine(), self.number(2, 2), self.number(6, 6), self.number(100001, 100001)),
            so_hopper, lambda: so_in(self.bay()), so_sets, so_belts, so_bales, lambda: so_look(self.number(4, 40)),
            so_worth, lambda: so_sums(self.number(6, 6)), so_money, so_state,
        )()

    def founding(self):
        """A start, and a works that has something in its bays (if that's what the rest lets come)."""
        count = self.draw.randrange(6)
        told = [so_start(self.one(6, 6, 6, 0, 3, 5))] + [so_feed(self.mix()), so_run()] * self.one(0, 1)
        told += [so_machine(self.one(2000, 1000000, 1000000), self.shares()) for k in range(count)]
        told += [so_setting(self.draw.randrange(5), self.shares()) for s in range(2 * count)]
        told += [so_belt(k, side, self.draw.randrange(12)) for k in range(count) for side in (0, 1)]
        return told + [self.a_bay() for i in range(4)] + [so_feed(self.mix()), so_run(), so_feed(self.mix())]

    def some_calls(self):
        way = self.draw.random()
        if way < 0.15:
            return [self.building()]
        if way < 0.5:
            return [self.working()]
        if way < 0.9:
            return [self.asking()]
        if way < 0.94:
            return [so_back()] * self.one(1, 1, 1, 4)
        if way < 0.98:
            return [so_again()] * self.one(1, 1, 2, 4)
        if way < 0.99:
            return [so_start(self.one(7, 8, HIGHEST))]
        return [so_back()] * 31 + [so_again()] * 25 if way < 0.993 else self.founding()

    def calls(self, count):
        told = self.founding()
        while len(told) < count:
            told += self.some_calls()
        return told[:count]


class Drawn(unittest.TestCase):
    def test_each_answer_is_the_ledgers(self):
        seen = {}
        for seed in range(200):
            told = Drawing(seed).calls(200 if seed % 10 else 1000)
            ledger = Ledger()
            for at, answer in enumerate(play(told)):
                self.assertEqual(answer, ledger.tried(told[at]), (seed, at, told[at]))
                short = (told[at][0], min(answer[0], 0))
                seen[short] = seen.get(short, 0) + 1
        for call in range(31):
            self.assertGreater(seen.get((call, 0), 0), 10, call)
        for call, refusals in REFUSALS.items():
            for number in refusals:
                self.assertGreater(seen.get((call, number), 0), 0, (call, number))


# What each call can be refused by, but for what takes long to come to: forty bales, 100,000,000 kilograms.
REFUSALS = {
    0: [-22], 1: [-22, -28], 2: [-2, -22, -28], 3: [-2, -22], 4: [-2, -22], 5: [-2, -22, -62], 6: [-22, -62],
    7: [-6, -62], 8: [-2, -6, -33], 9: [-2, -22, -6], 10: [-2, -6, -62], 11: [-33], 12: [-2], 14: [-2, -6], 15: [-33],
    16: [-2, -33], 17: [-22], 18: [-2, -22], 20: [-2], 24: [-2], 26: [-22], 28: [-2], 29: [-2],
}


if __name__ == "__main__":
    unittest.main()
