"""What holds, whatever is called: kept account of from outside, over calls drawn at random."""

import random
import unittest

from tests.calls import (
    play, so_bale, so_bay, so_belt, so_dump, so_feed, so_machine, so_pure, so_return, so_run, so_setting, so_start,
    so_take, so_turn, so_would, would_all,
)


def plus(mix, other):
    return [a + b for a, b in zip(mix, other)]


def drawn_call(draw):
    row = [draw.choice((0, 1, 333, 500, 999, 1000)) for kind in range(6)]
    return draw.choice((
        so_machine(draw.choice((3000, 1000000)), row),
        so_setting(draw.randrange(5), row),
        so_turn(draw.randrange(5), draw.randrange(3)),
        so_belt(draw.randrange(5), draw.randrange(2), draw.randrange(11)),
        so_bay(draw.randrange(6), draw.randrange(6), draw.choice((0, 200, 500)), draw.randrange(2000), draw.choice((1500, 20000))),
        so_feed([draw.randrange(900) for kind in range(6)]),
        so_feed([draw.randrange(9) for kind in range(6)]),
        so_run(),
        so_run(),
        so_bale(draw.randrange(6)),
        so_dump(draw.randrange(6), draw.randrange(1001)),
        so_return(draw.randrange(6)),
        so_take(),
    ))


class Account:
    """What should be where, from what calls answer."""

    def __init__(self):
        self.hopper = [0] * 6
        self.bays = [[0] * 6 for i in range(6)]

    def note(self, call, answer, came):
        if answer[0] < 0:
            return
        if call[0] == 6:
            self.hopper = plus(self.hopper, call[2:])
        elif call[0] == 7:
            self.bays = [plus(mix, more) for mix, more in zip(self.bays, came)]
            self.hopper = [0] * 6
        elif call[0] in (8, 9, 10):
            if call[0] == 10:
                self.hopper = plus(self.hopper, self.bays[call[1]])
            self.bays[call[1]] = [0] * 6


class Holds(unittest.TestCase):
    def check_walk(self, seed):
        draw = random.Random(seed)
        calls = [so_start(draw.choice((6, 6, 2)))]
        for step in range(110):
            calls += would_all() + [drawn_call(draw)]
        calls += would_all() + [so_pure(i) for i in range(6)]
        answered = play(calls)
        account = Account()
        changed = 0
        for at in range(1, len(answered) - 12, 7):
            came = [answer[1:] for answer in answered[at:at + 6]]
            self.assertEqual([sum(of_kind) for of_kind in zip(*came)], account.hopper)
            self.assertEqual([answer[0] for answer in answered[at:at + 6]], [sum(mix) for mix in came])
            self.check_amount(calls[at + 6], answered[at + 6], account)
            account.note(calls[at + 6], answered[at + 6], came)
            changed += answered[at + 6][0] >= 0
        self.assertEqual([answer == [-6] for answer in answered[-6:]], [sum(mix) == 0 for mix in account.bays])
        return changed

    def check_amount(self, call, answer, account):
        """Each call that empties something tells just how much that was."""
        if answer[0] < 0:
            return
        if call[0] == 7:
            self.assertEqual(answer, [sum(account.hopper)])
        elif call[0] == 8:
            self.assertEqual(answer[1], sum(account.bays[call[1]]))
        elif call[0] == 9:
            self.assertEqual(answer, [-(-sum(account.bays[call[1]]) * call[2] // 1000)])
        elif call[0] == 10:
            self.assertEqual(answer, [sum(account.hopper) + sum(account.bays[call[1]])])

    def test_each_kilogram_is_somewhere_and_all_comes_to_a_bay_as_told(self):
        changed = sum(self.check_walk(seed) for seed in range(120))
        self.assertGreater(changed, 120 * 40)

    def test_no_bay_ever_has_more_than_it_holds(self):
        for most in (1, 7, 50):
            told = [so_start(), so_bay(0, 0, 0, 0, most)] + [so_feed([1, 1, 1, 0, 0, 0]), so_run()] * 30
            had = sum(answer[0] for answer in play(told)[3::2] if answer[0] > 0)
            self.assertLessEqual(had, most)

    def test_what_is_told_of_a_bay_is_what_comes_to_it(self):
        told = [so_start(), so_machine(1000, [1, 200, 333, 500, 999, 1000]), so_belt(0, 0, 2), so_belt(0, 1, 5)]
        told += [so_feed([10, 20, 30, 40, 50, 60])]
        for i in (2, 5):
            would = play(told + [so_would(i)])[-1]
            rest = [so_dump(7 - i, 0), so_return(i), so_belt(0, 0, 0), so_belt(0, 1, 0), so_would(0)]
            self.assertEqual(play(told + [so_run()] + rest)[-1], would)


if __name__ == "__main__":
    unittest.main()
