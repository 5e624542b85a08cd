"""Point 1, and what a refused start leaves."""

import unittest

from tests.calls import (
    HIGHEST, last, only, play, probe, same, so_bale, so_bay, so_belt, so_best, so_dump, so_feed, so_loads,
    so_machine, so_pure, so_return, so_run, so_setting, so_start, so_take, so_turn, so_would, stocked,
)


def busy(harm):
    """A works where everything is other than at first."""
    return [
        so_start(harm),
        so_machine(50000, same(600)), so_setting(0, same(300)), so_machine(40000, same(100)),
        so_belt(0, 1, 7), so_belt(1, 0, 3), so_turn(0, 1),
        so_bay(0, 1, 10, 500, 90000), so_bay(3, 2, 0, 70, 4000),
        so_feed([100, 200, 300, 0, 500, 600]), so_run(), so_bale(3), so_dump(1, 9),
        so_feed([10, 20, 30, 0, 50, 60]), so_take(),
    ]


class Start(unittest.TestCase):
    def test_nothing_of_the_busy_works_is_refused(self):
        for harm in (3, 6):
            self.assertTrue(all(answer[0] >= 0 for answer in play(busy(harm))))

    def test_each_harm_up_to_six_is_taken(self):
        for harm in range(7):
            self.assertEqual(play([so_start(harm)]), [[0]])

    def test_a_harm_above_six_is_refused(self):
        for harm in (7, 8, 1000, HIGHEST):
            self.assertEqual(play([so_start(harm)]), [[-22]])

    def test_a_start_may_follow_a_refused_one(self):
        self.assertEqual(play([so_start(7), so_start(HIGHEST), so_start(6), so_run()]), [[-22], [-22], [0], [-6]])

    def test_a_refused_start_leaves_all_as_it_was(self):
        for harm in (3, 6):
            plain = play(busy(harm) + probe())
            tried = play(busy(harm) + [so_start(7)] + probe())
            self.assertEqual(tried, plain[:len(busy(harm))] + [[-22]] + plain[len(busy(harm)):])

    def test_a_start_that_is_taken_makes_all_as_at_first(self):
        for harm in (0, 3, 6):
            plain = play([so_start(harm)] + probe())
            again = play(busy(3) + [so_start(harm)] + probe())
            self.assertEqual(again[len(busy(3)):], plain)

    def test_the_second_start_says_which_kind_does_harm(self):
        told = [so_start(2), so_start(0)] + stocked([1, 0, 1, 0, 0, 0])
        self.assertEqual(last(told + [so_bale(0)]), [-33])
        told = [so_start(0), so_start(6)] + stocked([1, 0, 1, 0, 0, 0])
        self.assertEqual(last(told + [so_bale(0)]), [0, 2])

    def test_a_refused_start_keeps_the_kind_that_does_harm(self):
        told = [so_start(2), so_start(7)] + stocked([1, 0, 1, 0, 0, 0])
        self.assertEqual(last(told + [so_bale(0)]), [-33])

    def test_bales_are_counted_anew(self):
        bale = stocked(only(0, 1)) + [so_bale(0)]
        self.assertEqual(last([so_start(6)] + bale * 40 + [so_start(6)] + bale), [0, 1])

    def test_at_first(self):
        told = [so_start(6), so_loads(), so_best(), so_run(), so_would(5)]
        told += [so_pure(i) for i in range(6)] + [so_return(0), so_dump(5, 0), so_bale(3)]
        empty = [[-6]] * 6 + [[-6], [-6], [-6]]
        zeros = [0, 0, 0, 0, 0, 0]
        self.assertEqual(play(told), [[0], [1] + [0] * 5, zeros, [-6], [0] + zeros] + empty)

    def test_a_bay_is_at_first_for_kind_0_asks_0_brings_0_holds_1_000_000(self):
        told = [so_start(6)]
        told += (stocked(same(10000))) * 16 + stocked([10000, 10000, 10000, 10000, 0, 0])
        answered = play(told + [so_pure(0), so_feed(only(5, 1)), so_run(), so_bale(0)])
        self.assertEqual(answered[-4:], [[170, 1], [1], [-62], [0, 1000000]])


if __name__ == "__main__":
    unittest.main()
