"""Points 5 and 6: so_best, so_take, and that none that fit bring more."""

import itertools
import random
import unittest

from tests.calls import (
    last, only, play, same, so_bay, so_belt, so_best, so_feed, so_loads, so_machine, so_pure, so_run, so_setting,
    so_start, so_take, so_turn, so_would, stocked, would_all,
)


def two_machines(first, second):
    """Side 1 of machine 0 leads to machine 1, whose side 1 leads to bay 2."""
    told = [so_start()]
    for k, settings in enumerate((first, second)):
        told += [so_machine(100000, settings[0])] + [so_setting(k, p) for p in settings[1:]]
    return told + [so_belt(0, 1, 7), so_belt(1, 0, 1), so_belt(1, 1, 2)]


class Best(unittest.TestCase):
    def test_the_settings_behind_which_bays_are_worth_most(self):
        told = two_machines([same(0), only(0, 1000)], [same(0), only(1, 1000), same(500)])
        told += [so_bay(0, 0, 900, 5000, 1000), so_bay(1, 1, 900, 3000, 1000), so_feed([10, 20, 30, 0, 0, 0])]
        self.assertEqual(last(told + [so_best()]), [110, 1, 1, 0, 0, 0])

    def test_what_the_bays_have_counts(self):
        told = [so_start(), so_machine(1000, same(1000)), so_setting(0, same(0)), so_bay(0, 0, 500, 1000, 1000)]
        told += [so_bay(1, 1, 500, 900, 1000)]
        self.assertEqual(last(told + [so_feed(only(0, 10)), so_best()]), [10, 0, 0, 0, 0, 0])
        had = [so_turn(0, 1), so_feed(only(1, 10)), so_run(), so_turn(0, 0)]
        self.assertEqual(last(told + had + [so_feed(only(0, 10)), so_best()]), [19, 0, 0, 0, 0, 0])
        had = [so_feed(only(1, 30)), so_run()]
        self.assertEqual(last(told + had + [so_feed(only(0, 10)), so_best()]), [0, 0, 0, 0, 0, 0])
        had += [so_feed(only(0, 25)), so_run()]
        self.assertEqual(last(told + had + [so_feed(only(0, 10)), so_best()]), [65, 0, 0, 0, 0, 0])

    def test_each_bays_worth_is_rounded_down_by_itself(self):
        told = [so_start(), so_machine(1000, same(500)), so_bay(0, 0, 0, 999, 9), so_bay(1, 0, 0, 999, 9)]
        self.assertEqual(last(told + [so_feed(only(0, 2)), so_best()]), [0] * 6)
        self.assertEqual(last(told + [so_feed(only(0, 4)), so_best()]), [2] + [0] * 5)

    def test_of_several_worth_as_much_the_first(self):
        told = two_machines([same(0), same(1000)], [same(0), same(1000)])
        told += [so_feed(only(0, 10))]
        self.assertEqual(last(told + [so_bay(0, 0, 0, 1000, 99), so_best()]), [10, 1, 0, 0, 0, 0])
        self.assertEqual(last(told + [so_bay(2, 0, 0, 1000, 99), so_best()]), [10, 0, 0, 0, 0, 0])
        self.assertEqual(last(told + [so_best()]), [0, 0, 0, 0, 0, 0])

    def test_machine_0_is_looked_at_ahead_of_machine_1(self):
        told = two_machines([same(0), same(1000)], [same(0), same(1000)])
        told += [so_bay(0, 0, 0, 1000, 99), so_bay(1, 0, 0, 1000, 99), so_feed(only(0, 10)), so_best()]
        self.assertEqual(last(told), [10, 0, 1, 0, 0, 0])

    def test_more_is_better_however_little(self):
        told = two_machines([same(0), same(1000)], [same(0), same(1000)])
        told += [so_bay(0, 0, 0, 1001, 1000), so_bay(1, 0, 0, 1000, 1000), so_feed(only(0, 1000)), so_best()]
        self.assertEqual(last(told), [1001, 1, 0, 0, 0, 0])

    def test_settings_by_which_a_bay_would_have_too_much_are_left_out(self):
        told = [so_start(), so_machine(1000, same(1000)), so_setting(0, same(400)), so_bay(0, 0, 0, 1000, 9)]
        self.assertEqual(last(told + [so_feed(only(0, 9)), so_best()]), [9, 0, 0, 0, 0, 0])
        self.assertEqual(last(told + [so_feed(only(0, 10)), so_best()]), [4, 1, 0, 0, 0, 0])

    def test_settings_by_which_too_much_comes_to_a_machine_are_left_out(self):
        told = [so_start(), so_machine(1000, same(1000)), so_setting(0, same(400)), so_machine(9, same(1000))]
        told += [so_belt(0, 0, 7), so_bay(0, 0, 0, 1000, 1000)]
        self.assertEqual(last(told + [so_feed(only(0, 9)), so_best()]), [9, 0, 0, 0, 0, 0])
        self.assertEqual(last(told + [so_feed(only(0, 10)), so_best()]), [4, 1, 0, 0, 0, 0])

    def test_none_fit_the_first_machine(self):
        told = [so_start(), so_machine(9, same(1000)), so_setting(0, same(0)), so_feed(only(0, 10))]
        self.assertEqual(play(told + [so_best(), so_take()])[-2:], [[-33], [-33]])

    def test_none_fit_the_last_machine(self):
        told = [so_start(), so_machine(10, same(700)), so_setting(0, same(600)), so_machine(5, same(0)), so_belt(0, 0, 7)]
        told += [so_feed(only(0, 10)), so_best(), so_take()]
        self.assertEqual(play(told)[-2:], [[-33], [-33]])

    def test_none_fit_the_bays(self):
        told = [so_start(), so_machine(10, same(700)), so_setting(0, same(300)), so_bay(0, 0, 0, 0, 2), so_feed(only(0, 10))]
        self.assertEqual(play(told + [so_best(), so_take()])[-2:], [[-33], [-33]])

    def test_without_machines(self):
        told = [so_start(), so_bay(0, 0, 0, 1500, 9)]
        self.assertEqual(play(told + [so_feed(only(0, 9)), so_best(), so_take()])[-2:], [[13] + [0] * 5, [13]])
        self.assertEqual(play(told + [so_feed(only(0, 10)), so_best(), so_take()])[-2:], [[-33], [-33]])

    def test_an_empty_hopper(self):
        told = [so_start(), so_bay(0, 0, 0, 2000, 100)] + stocked(only(3, 50))
        told += [so_machine(1, same(0)), so_setting(0, same(1)), so_turn(0, 1)]
        self.assertEqual(last(told + [so_best()]), [100, 0, 0, 0, 0, 0])

    def test_harm_makes_a_bay_worth_nothing(self):
        told = [so_start(1), so_machine(1000, same(1000)), so_setting(0, only(0, 1000)), so_bay(0, 0, 0, 1000, 1000)]
        self.assertEqual(last(told + [so_feed([10, 5, 0, 0, 0, 0]), so_best()]), [10, 1, 0, 0, 0, 0])
        self.assertEqual(last(told + [so_feed([10, 0, 5, 0, 0, 0]), so_best()]), [15, 0, 0, 0, 0, 0])

    def test_purity_makes_a_bay_worth_something(self):
        told = [so_start(), so_machine(1000, same(1000)), so_setting(0, only(0, 1000)), so_bay(0, 0, 667, 1000, 1000)]
        self.assertEqual(last(told + [so_feed([20, 10, 0, 0, 0, 0]), so_best()]), [20, 1, 0, 0, 0, 0])
        self.assertEqual(last(told + [so_feed([21, 10, 0, 0, 0, 0]), so_best()]), [31, 0, 0, 0, 0, 0])

    def test_it_sets_nothing(self):
        told = [so_start(), so_machine(1000, same(0)), so_setting(0, same(1000)), so_bay(0, 0, 0, 1000, 1000)]
        told += [so_feed(only(0, 10)), so_best(), so_would(0), so_turn(0, 0)]
        self.assertEqual(play(told)[5:], [[10, 1, 0, 0, 0, 0], [0] * 7, [0]])

    def test_which_are_set_is_not_looked_at(self):
        told = [so_start(), so_machine(1000, same(0)), so_setting(0, same(1000)), so_feed(only(0, 10)), so_turn(0, 1)]
        self.assertEqual(last(told + [so_best()]), [0, 0, 0, 0, 0, 0])


class Take(unittest.TestCase):
    def test_the_best_are_set(self):
        told = two_machines([same(0), only(0, 1000)], [same(0), same(500), only(1, 1000)])
        told += [so_bay(0, 0, 900, 5000, 1000), so_bay(1, 1, 900, 3000, 1000), so_feed([10, 20, 30, 0, 0, 0])]
        told += [so_take(), so_would(0), so_would(1), so_turn(0, 0), so_turn(1, 0)]
        self.assertEqual(play(told)[-5:], [[110], [10] + only(0, 10), [20] + only(1, 20), [1], [2]])

    def test_settings_are_turned_back_to_the_first(self):
        told = two_machines([same(0), same(1)], [same(0), same(1), same(2)]) + [so_turn(0, 1), so_turn(1, 2)]
        self.assertEqual(play(told + [so_take(), so_turn(0, 0), so_turn(1, 0)])[-3:], [[0], [0], [0]])

    def test_nothing_is_run(self):
        told = [so_start(), so_machine(1000, same(0)), so_setting(0, same(1000)), so_bay(0, 0, 0, 1000, 1000)]
        told += [so_feed(only(0, 10)), so_take(), so_pure(0), so_run(), so_pure(0)]
        self.assertEqual(play(told)[5:], [[10], [-6], [10], [1000, 1]])

    def test_refused_it_leaves_the_settings(self):
        told = [so_start(), so_machine(9, same(0)), so_setting(0, same(1000)), so_turn(0, 1), so_feed(only(0, 10))]
        self.assertEqual(play(told + [so_take(), so_turn(0, 0)])[-2:], [[-33], [1]])

    def test_a_works_without_machines_can_take_too(self):
        self.assertEqual(play([so_start(), so_take(), so_feed(only(0, 1)), so_take()])[1:], [[0], [1], [0]])


class Drawn:
    """A works drawn at random, small enough that equals and overloads are common."""

    def __init__(self, seed):
        draw = random.Random(seed)
        self.harm = draw.choice((6, 6, draw.randrange(6)))
        self.count = draw.choice((0, 1, 2, 3, 4, 5))
        self.settings = [[self.drawn_setting(draw) for s in range(draw.choice((1, 2, 3)))] for k in range(self.count)]
        self.most = [draw.choice((60, 300, 1000000)) for k in range(self.count)]
        self.belts = [[draw.randrange(k + 7, self.count + 6) if k + 1 < self.count and draw.random() < 0.5
                       else draw.randrange(6) for side in (0, 1)] for k in range(self.count)]
        self.bays = [(draw.randrange(6), draw.choice((0, 100, 400, 900)), draw.choice((0, 700, 1500, 10000)),
                      draw.choice((80, 300, 1000000))) for i in range(6)]
        self.mixes = [[draw.randrange(30) for kind in range(5)] + [1] for batch in range(2)]

    def drawn_setting(self, draw):
        return [draw.choice((0, 10, 333, 500, 900, 1000)) for kind in range(6)]

    def calls(self):
        told = [so_start(self.harm)]
        for k in range(self.count):
            told += [so_machine(self.most[k], self.settings[k][0])]
            told += [so_setting(k, p) for p in self.settings[k][1:]]
        told += [so_belt(k, side, self.belts[k][side]) for k in range(self.count) for side in (0, 1)]
        return told + [so_bay(i, *bay) for i, bay in enumerate(self.bays)]

    def all_settings(self):
        return itertools.product(*[range(len(settings)) for settings in self.settings])


class NoneBringMore(unittest.TestCase):
    """The best settings against all of them, tried one by one with so_turn and so_would."""

    def mixes_behind(self, answered):
        return [answer[1:] for answer in answered]

    def worth(self, drawn, mixes):
        money = 0
        for (kind, pure, price, most), mix in zip(drawn.bays, mixes):
            harmed = drawn.harm < 6 and mix[drawn.harm] > 0
            if sum(mix) > 0 and 1000 * mix[kind] >= pure * sum(mix) and not harmed:
                money += sum(mix) * price // 1000
        return money

    def test_drawn_works(self):
        found = refused = 0
        for seed in range(150):
            drawn = Drawn(seed)
            told = drawn.calls() + [so_feed(drawn.mixes[0])] + would_all() + [so_run(), so_feed(drawn.mixes[1])]
            answered = play(told)
            had = self.mixes_behind(answered[-8:-2]) if answered[-2][0] > 0 else [same(0)] * 6
            best = None
            for choice in drawn.all_settings():
                turned = [so_turn(k, s) for k, s in enumerate(choice)]
                tried = play(told + turned + [so_loads()] + would_all())
                came = self.mixes_behind(tried[-6:])
                worth = self.worth(drawn, [[a + b for a, b in zip(*pair)] for pair in zip(had, came)])
                if tried[-7][0] == 1 and (best is None or worth > best[0]):
                    best = [worth] + list(choice) + [0] * (5 - drawn.count)
            expected = [-33] if best is None else best
            self.assertEqual(last(told + [so_best()]), expected, seed)
            self.assertEqual(last(told + [so_take()]), expected[:1], seed)
            found += best is not None
            refused += best is None
        self.assertGreater(found, 50)
        self.assertGreater(refused, 20)


if __name__ == "__main__":
    unittest.main()
