"""Point 6, so_often: how often a bay's mix must be put through again till it's good."""

import random
import unittest

from tests.calls import (
    HIGHEST, last, only, play, probe, same, so_bale, so_bay, so_belt, so_dump, so_feed, so_in, so_machine,
    so_often, so_pure, so_return, so_run, so_setting, so_start, so_turn, stocked,
)


def asking(pure, mix, harm=6):
    """Calls behind which bay 0, for kind 0, asks for so much and has the mix; there's no machine yet."""
    return [so_start(harm), so_bay(0, 0, pure, 0, 1000000)] + stocked(mix)


class Often(unittest.TestCase):
    def test_a_bay_that_is_not_there(self):
        for i in (6, 7, HIGHEST):
            self.assertEqual(last([so_start()] + stocked(same(1)) + [so_often(i)]), [-2])

    def test_a_mix_that_is_good_already(self):
        told = asking(500, [6, 4, 0, 0, 0, 0]) + [so_often(0), so_machine(100, same(0)), so_often(0)]
        self.assertEqual(play(told)[4:], [[0, 10], [0], [0, 10]])

    def test_one_that_is_good_after_some_times(self):
        halved = so_machine(100000, [1000, 500, 0, 0, 0, 0])
        for pure, times, left in (
            (500, 0, 2000), (501, 1, 1500), (666, 1, 1500), (667, 2, 1250), (800, 2, 1250), (801, 3, 1125),
            (900, 4, 1062), (999, 9, 1001), (1000, 10, 1000),
        ):
            told = asking(pure, [1000, 1000, 0, 0, 0, 0]) + [halved, so_often(0)]
            self.assertEqual(last(told), [times, left], pure)

    def test_just_20_times_and_21(self):
        fewer = so_machine(100, [1000, 999, 1000, 0, 0, 0])
        for kg, answer in ((1, [1, 5]), (19, [19, 5]), (20, [20, 5]), (21, [-33]), (22, [-33])):
            self.assertEqual(last(asking(1000, [5, kg, 0, 0, 0, 0]) + [fewer, so_often(0)]), answer)
            self.assertEqual(last(asking(0, [2, kg, 3, 0, 0, 0], harm=1) + [fewer, so_often(0)]), answer)

    def test_half_of_much_is_gone_in_20_times_at_most(self):
        told = [so_start(1)] + stocked([1, 10000, 0, 0, 0, 0]) * 53 + [so_machine(1, [1000, 500, 0, 0, 0, 0])]
        self.assertEqual(last(told + [so_often(0)]), [20, 53])

    def test_exactly_as_much_as_is_asked(self):
        machine = so_machine(100, [1000, 999, 0, 0, 0, 0])
        self.assertEqual(last(asking(900, [9, 2, 0, 0, 0, 0]) + [machine, so_often(0)]), [1, 10])
        self.assertEqual(last(asking(901, [9, 2, 0, 0, 0, 0]) + [machine, so_often(0)]), [2, 9])

    def test_one_that_never_is(self):
        told = asking(501, [5, 5, 0, 0, 0, 0])
        self.assertEqual(last(told + [so_machine(100, same(1000)), so_often(0)]), [-33])
        self.assertEqual(last(told + [so_machine(100, [0, 1000, 0, 0, 0, 0]), so_often(0)]), [-33])
        harmed = asking(0, [5, 5, 0, 0, 0, 0], harm=0)
        self.assertEqual(last(harmed + [so_machine(100, [1000, 0, 0, 0, 0, 0]), so_often(0)]), [-33])

    def test_an_empty_bay(self):
        for told in ([so_start()], [so_start(), so_machine(100, same(1000))], [so_start(), so_feed(same(5))]):
            for i in range(6):
                self.assertEqual(last(told + [so_often(i)]), [-33])

    def test_a_mix_of_which_nothing_is_left(self):
        told = asking(0, [5, 1, 0, 0, 0, 0], harm=1)
        self.assertEqual(last(told + [so_machine(100, same(0)), so_often(0)]), [-33])
        self.assertEqual(last(told + [so_machine(100, same(500)), so_often(0)]), [1, 2])
        self.assertEqual(last(asking(1, only(1, 7)) + [so_machine(100, same(999)), so_often(0)]), [-33])

    def test_without_machines(self):
        for mix, answer in (([5, 5, 0, 0, 0, 0], [-33]), ([6, 4, 0, 0, 0, 0], [0, 10])):
            self.assertEqual(last(asking(501, mix) + [so_often(0)]), answer)

    def test_good_once_and_not_any_more_later(self):
        # 3 and 3, then 2 and 1, then 1 and 0, then nothing.
        machine = so_machine(100, [999, 500, 0, 0, 0, 0])
        for pure, answer in ((500, [0, 6]), (600, [1, 3]), (667, [2, 1]), (1000, [2, 1])):
            self.assertEqual(last(asking(pure, [3, 3, 0, 0, 0, 0]) + [machine, so_often(0)]), answer)

    def test_the_settings_that_are_set_now(self):
        told = asking(1000, [9, 9, 0, 0, 0, 0]) + [so_machine(100, same(1000)), so_setting(0, [1000, 500, 0, 0, 0, 0])]
        told += [so_setting(0, [1000, 0, 0, 0, 0, 0])]
        told += [so_often(0), so_turn(0, 1), so_often(0), so_turn(0, 2), so_often(0), so_turn(0, 0), so_often(0)]
        self.assertEqual(play(told)[7:], [[-33], [0], [4, 9], [1], [1, 9], [2], [-33]])

    def test_the_belts_as_they_lead_now(self):
        told = asking(1000, [9, 9, 0, 0, 0, 0]) + [so_machine(100, [1000, 500, 0, 0, 0, 0])]
        told += [so_belt(0, 0, 3), so_often(0), so_belt(0, 1, 0), so_often(0), so_belt(0, 0, 0), so_often(0)]
        told += [so_belt(0, 1, 5), so_often(0)]
        self.assertEqual(play(told)[5:], [[0], [-33], [1], [-33], [3], [-33], [0], [4, 9]])

    def test_whether_it_fits_is_not_looked_at(self):
        told = [so_start(), so_bay(0, 0, 1000, 0, 2000)] + stocked([1000, 1000, 0, 0, 0, 0])
        told += [so_machine(1, [1000, 500, 0, 0, 0, 0]), so_bay(1, 0, 0, 0, 1)]
        self.assertEqual(play(told + [so_return(0), so_run()])[-1], [-62])
        self.assertEqual(last(told + [so_often(0)]), [10, 1000])

    def test_by_itself(self):
        told = asking(1000, [9, 9, 0, 0, 0, 0]) + [so_machine(100, [1000, 500, 0, 0, 0, 0]), so_feed(same(9))]
        self.assertEqual(last(told + [so_often(0)]), [4, 9])
        told += [so_run(), so_dump(0, 0), so_in(1), so_often(1)]
        self.assertEqual(play(told)[-2:], [[41, 0, 5, 9, 9, 9, 9], [0, 41]])

    def test_another_bay_by_later_machines(self):
        told = [so_start(), so_bay(4, 2, 900, 0, 1000), so_machine(1000, same(0)), so_belt(0, 1, 4)]
        told += [so_feed([0, 40, 80, 0, 0, 0]), so_run()]
        told += [so_machine(9, [0, 500, 1000, 0, 0, 0]), so_machine(9, [0, 0, 250, 0, 0, 0])]
        told += [so_belt(0, 1, 7), so_belt(1, 0, 8), so_belt(1, 1, 3), so_belt(2, 0, 4), so_belt(2, 1, 4)]
        # Of kind 1 half is left each time, of kind 2 all, by both sides of the last machine.
        self.assertEqual(last(told + [so_often(4)]), [3, 85])
        self.assertEqual(last(told + [so_belt(2, 1, 5), so_often(4)]), [1, 20])
        self.assertEqual(last(told + [so_belt(2, 1, 5), so_belt(1, 1, 4), so_often(4)]), [-33])

    def test_for_the_bays_own_kind_as_it_is_now(self):
        told = asking(1000, [9, 9, 0, 0, 0, 0]) + [so_machine(100, [500, 1000, 0, 0, 0, 0]), so_often(0)]
        told += [so_bay(0, 1, 1000, 0, 18), so_often(0), so_bay(0, 0, 500, 0, 18), so_often(0)]
        self.assertEqual(play(told)[5:], [[-33], [0], [4, 9], [0], [0, 18]])

    def test_it_changes_nothing(self):
        told = asking(1000, [9, 9, 3, 4, 5, 6]) + [so_machine(100, [1000, 500, 999, 400, 0, 3]), so_feed(same(3))]
        self.assertEqual(play(told + [so_often(0)] + probe())[7:], play(told + probe())[6:])


class PureInSoMany(unittest.TestCase):
    """What so_often tells against the mix put through indeed, time by time."""

    def check(self, draw):
        harm = draw.choice((6, 6, 5))
        mix = [draw.randrange(1, 60) for kind in range(6)]
        told = [so_start(harm), so_bay(0, 0, draw.choice((0, 300, 700, 900)), 0, 1000000)] + stocked(mix)
        for k in range(3):
            told += [so_machine(1000000, [draw.choice((1000, 990))] + [draw.choice((300, 700, 900)) for j in range(5)])]
        told += [so_belt(0, 0, draw.choice((0, 7, 8))), so_belt(0, 1, draw.choice((1, 7)))]
        told += [so_belt(1, 0, draw.choice((0, 8))), so_belt(1, 1, 2), so_belt(2, 0, 0), so_belt(2, 1, draw.choice((0, 3)))]
        expected = last(told + [so_often(0)])
        times = 0
        while times <= 20:
            if play(told + [so_pure(0)])[-1][1:] == [1]:
                self.assertEqual(expected, [times, last(told + [so_in(0)])[0]])
                self.assertEqual(last(told + [so_bale(0)])[1:], expected[1:])
                return times
            # An empty bay can't be returned, and then nothing is run.
            told = told + [so_return(0), so_run()]
            times += 1
        self.assertEqual(expected, [-33])
        return -1

    def test_drawn_works(self):
        draw = random.Random(20)
        seen = [self.check(draw) for trial in range(150)]
        self.assertGreater(seen.count(0), 10)
        self.assertGreater(seen.count(-1), 10)
        self.assertGreater(len(set(seen)), 8)


if __name__ == "__main__":
    unittest.main()
