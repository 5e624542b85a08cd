"""What holds of what a state keeps but no call tells yet: baled, dumped, and the money."""

import random
import unittest

from sortingbelts.history import History
from sortingbelts.mixes import NOTHING
from sortingbelts.model import Bay
from sortingbelts.works import Tape, answer_to, told_behind
from sortingbelts.worths import is_good
from tests.calls import so_start
from tests.test_holds import drawn_call


def answered(history, call):
    tape = Tape(call)
    number = tape.number()
    return answer_to(history, number, told_behind(tape, number))


def kind_by_kind(mixes):
    return [sum(of_kind) for of_kind in zip(*mixes)]


class Accounted(unittest.TestCase):
    def check_state(self, state):
        bays = [bay.mix for bay in state.bays]
        baled = [bale[1] for bale in state.bales]
        self.assertEqual(kind_by_kind([state.hopper, state.dumped] + bays + baled), list(state.fed))
        for bay in state.bays:
            self.assertLessEqual(sum(bay.mix), bay.most)
        for k, machine in enumerate(state.machines):
            for to in machine.belts:
                self.assertTrue(0 <= to < 6 or k < to - 6 < len(state.machines))

    def test_each_kilogram_and_all_money_after_every_call(self):
        baled = dumped = 0
        for seed in range(40):
            draw = random.Random(seed)
            history = History()
            answered(history, so_start(draw.choice((6, 6, 2))))
            money = {8: 0, 9: 0}
            for step in range(150):
                call = drawn_call(draw)
                answer = answered(history, call)
                if call[0] in money and answer[0] >= 0:
                    money[call[0]] += answer[0]
                self.check_state(history.state)
            self.assertEqual(sum(bale[2] for bale in history.state.bales), money[8])
            self.assertEqual(history.state.cost, money[9])
            baled += len(history.state.bales)
            dumped += sum(history.state.dumped)
        self.assertGreater(baled, 0)
        self.assertGreater(dumped, 0)

    def test_nothing_is_not_good(self):
        self.assertFalse(is_good(Bay(), NOTHING, 6))


if __name__ == "__main__":
    unittest.main()
