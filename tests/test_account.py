"""What holds, after every call of lines drawn at random: each kilogram and all money, belts, bays, what is baled."""

import random
import unittest

from tests.calls import (
    in_all, play, so_again, so_back, so_bales, so_belts, so_hopper, so_money, so_pure, so_start, so_state, so_worth,
    so_would, sums_all,
)
from tests.test_holds import drawn_call

ASKED = [so_hopper(), so_bales(), so_money(), so_belts(), so_state(), so_worth()] + in_all() + sums_all()


class Stand:
    """What ASKED answers, by names."""

    def __init__(self, answered):
        self.hopper, self.bales, self.money, self.belts, self.state, self.worth = answered[:6]
        self.bays = answered[6:12]
        self.sums = answered[12:]


class Accounted(unittest.TestCase):
    def lines(self, count, drawn):
        """Of each line drawn: its calls, their answers, and how the works stood behind each."""
        for seed in range(count):
            draw = random.Random(seed)
            steps = [so_start(draw.choice((6, 6, 2)))] + [drawn(draw) for step in range(49)]
            answered = play(sum([[step] + ASKED for step in steps], []))
            size = 1 + len(ASKED)
            stands = [Stand(answered[at + 1:at + size]) for at in range(0, len(answered), size)]
            yield list(zip(steps, answered[::size], stands))

    def with_taking_back(self, draw):
        return draw.choice((so_back(), so_back(), so_again())) if draw.random() < 0.25 else drawn_call(draw)

    def test_each_kilogram_kind_by_kind(self):
        seen = [0] * 5
        for line in self.lines(40, self.with_taking_back):
            for call, answer, stand in line:
                for kind, (fed, hopper, bays, baled, dumped) in enumerate(stand.sums):
                    self.assertEqual(fed, hopper + bays + baled + dumped)
                    self.assertEqual(hopper, stand.hopper[1 + kind])
                    self.assertEqual(bays, sum(bay[1 + kind] for bay in stand.bays))
                self.assertEqual(sum(of_kind[3] for of_kind in stand.sums), stand.bales[1])
                self.assertEqual(stand.hopper[0], sum(stand.hopper[1:]))
                for bay in stand.bays:
                    self.assertEqual(bay[0], sum(bay[1:]))
            seen = [had + more for had, more in zip(seen, [sum(place) for place in zip(*stand.sums)])]
        self.assertTrue(all(seen), seen)

    def test_all_money(self):
        brought = cost = 0
        for line in self.lines(40, drawn_call):
            money = {8: 0, 9: 0}
            for call, answer, stand in line:
                if call[0] in money and answer[0] >= 0:
                    money[call[0]] += answer[0]
                self.assertEqual(stand.money, [money[8], money[9]])
                self.assertEqual(stand.bales[2], money[8])
                self.assertEqual(stand.bales[0], stand.state[2])
            brought += money[8]
            cost += money[9]
        self.assertGreater(brought, 0)
        self.assertGreater(cost, 0)

    def test_never_round(self):
        led_on = 0
        for line in self.lines(40, self.with_taking_back):
            for call, answer, stand in line:
                machines = stand.belts[0]
                self.assertEqual(machines, stand.state[0])
                for at, to in enumerate(stand.belts[1:1 + 2 * machines]):
                    self.assertTrue(0 <= to < 6 or at // 2 < to - 6 < machines)
                    led_on += to >= 6
                self.assertEqual(stand.belts[1 + 2 * machines:], [0] * (10 - 2 * machines))
                self.assertLessEqual(stand.hopper[0], 100000)
        self.assertGreater(led_on, 0)

    def test_no_bay_has_more_than_it_holds(self):
        refused = 0
        for line in self.lines(40, drawn_call):
            most = [1000000] * 6
            for call, answer, stand in line:
                if call[0] == 5 and answer[0] >= 0:
                    most[call[1]] = call[5]
                refused += call[0] in (5, 7) and answer == [-62]
                for bay, able in zip(stand.bays, most):
                    self.assertLessEqual(bay[0], able)
        self.assertGreater(refused, 20)

    def test_changes_that_can_be_taken_back_and_done_again(self):
        for line in self.lines(40, self.with_taking_back):
            back = again = 0
            for call, answer, stand in line[1:]:
                if answer[0] >= 0:
                    if call[0] == 28:
                        back, again = back - 1, again + 1
                        self.assertEqual(answer, [back])
                    elif call[0] == 29:
                        back, again = back + 1, again - 1
                        self.assertEqual(answer, [again])
                    else:
                        back, again = min(back + 1, 30), 0
                self.assertEqual(stand.state[3:], [back, again])

    def test_taken_back_all_stands_as_before(self):
        tested = 0
        for line in self.lines(40, drawn_call):
            steps = [call for call, answer, stand in line]
            changes = [stand for call, answer, stand in line if answer[0] >= 0]
            able = min(len(changes) - 1, 30)
            told = steps + [so_back()] * able + ASKED + [so_again()] * able + ASKED
            answered = play(told)
            first = Stand(answered[len(steps) + able:len(steps) + able + len(ASKED)])
            end = Stand(answered[-len(ASKED):])
            for found, kept, changed in ((first, changes[-1 - able], [0, able]), (end, changes[-1], [able, 0])):
                self.assertEqual(found.state, kept.state[:3] + changed)
                found.state = kept.state = None
                self.assertEqual(vars(found), vars(kept))
            tested += able
        self.assertGreater(tested, 400)


class RunAsTold(unittest.TestCase):
    def test_what_is_told_of_a_bay_is_just_what_comes_to_it(self):
        ran = 0
        for seed in range(60):
            draw = random.Random(seed)
            told = [so_start()] + [drawn_call(draw) for step in range(40)]
            told += in_all() + [so_would(i) for i in range(6)] + [[7]] + in_all() + [so_pure(i) for i in range(6)]
            answered = play(told)[-25:]
            if answered[12][0] >= 0:
                ran += 1
                for before, more, behind in zip(answered[:6], answered[6:12], answered[13:19]):
                    self.assertEqual(behind, [a + b for a, b in zip(before, more)])
                self.assertEqual(sum(more[0] for more in answered[6:12]), answered[12][0])
            for has, pure in zip(answered[13:19], answered[19:]):
                self.assertEqual(has[0] == 0, pure == [-6])
        self.assertGreater(ran, 15)


class OnlyWhatIsPure(unittest.TestCase):
    def test_baled_is_just_what_was_good_and_worth_that(self):
        baled = refused = 0
        for seed in range(60):
            draw = random.Random(seed)
            told = [so_start(draw.choice((6, 2)))] + [drawn_call(draw) for step in range(40)]
            for i in range(6):
                pure, has, worth, answer, left, worth_left = play(
                    told + [so_pure(i), [20, i], so_worth(), [8, i], [20, i], so_worth()])[-6:]
                if pure[-1] == 1:
                    baled += 1
                    self.assertEqual(answer[1], has[0])
                    self.assertEqual(worth[0] - answer[0], worth_left[0])
                    self.assertEqual(left, [0] * 7)
                else:
                    refused += 1
                    self.assertEqual(answer, [-6] if has[0] == 0 else [-33])
                    self.assertEqual([has, worth], [left, worth_left])
        self.assertGreater(baled, 15)
        self.assertGreater(refused, 15)


if __name__ == "__main__":
    unittest.main()
