"""Points 9 and 10: so_bales, so_look, so_worth; so_sums, so_money."""

import unittest

from tests.calls import (
    HIGHEST, last, only, play, probe, same, so_back, so_bale, so_bales, so_bay, so_belt, so_best, so_dump, so_feed,
    so_look, so_machine, so_money, so_return, so_run, so_setting, so_start, so_sums, so_take, so_worth, stocked, sums_all,
)


def three_bales():
    """Bales of 60 kilograms from bay 0, 1 from bay 4 and 1,500 from bay 1; bay 1 has 18 more, bay 4 nothing."""
    told = [so_start(), so_bay(0, 0, 0, 2500, 100000), so_bay(1, 1, 0, 999, 100000), so_bay(4, 0, 0, 1999, 100000)]
    told += stocked(same(10)) + [so_bale(0), so_machine(100000, same(1000)), so_belt(0, 0, 4)]
    told += stocked(only(3, 1)) + [so_bale(4), so_setting(0, same(0)), [3, 0, 1]]
    return told + stocked([0, 1000, 0, 500, 0, 0]) + [so_bale(1)] + stocked(same(3))


class Bales(unittest.TestCase):
    def test_none_at_first(self):
        self.assertEqual(last([so_start(), so_bales()]), [0, 0, 0])
        self.assertEqual(last([so_start()] + stocked(same(1)) + [so_bales()]), [0, 0, 0])

    def test_their_kilograms_and_what_they_brought(self):
        told = [so_start(), so_bay(0, 0, 0, 1500, 100000)] + stocked(only(0, 7)) + [so_bale(0), so_bales()]
        self.assertEqual(play(told)[-2:], [[10, 7], [1, 7, 10]])
        # Each bale is rounded by itself: 10 and 10, not 21.
        told += stocked(only(0, 7)) + [so_bale(0), so_bales()]
        self.assertEqual(play(told)[-2:], [[10, 7], [2, 14, 20]])

    def test_of_several_bays(self):
        self.assertEqual(last(three_bales() + [so_bales()]), [3, 1561, 150 + 1 + 1498])

    def test_neither_dumps_nor_returns_nor_refused_bales_count(self):
        told = three_bales() + [so_bale(0), so_bale(6), so_return(1), so_run(), so_dump(1, 1000), so_bales()]
        self.assertEqual(play(told)[-6:], [[-6], [-2], [18], [18], [18], [3, 1561, 1649]])

    def test_forty_of_the_heaviest(self):
        told = [so_start(), so_bay(0, 0, 0, 10000, 1000000)]
        told += ([so_feed(same(10000)), so_run()] * 10 + [so_bale(0)]) * 40 + [so_feed(same(1)), so_run(), so_bale(0)]
        told += [so_bales(), so_money(), so_look(39), so_look(40)]
        weight = 40 * 600000
        self.assertEqual(play(told)[-5:], [[-28], [40, weight, weight * 10], [weight * 10, 0], [0, 600000, 6000000], [-2]])


class Look(unittest.TestCase):
    def test_a_bale_that_is_not_there(self):
        self.assertEqual(last([so_start(), so_look(0)]), [-2])
        for n in (3, 4, HIGHEST):
            self.assertEqual(last(three_bales() + [so_look(n)]), [-2])

    def test_bay_kilograms_and_what_it_brought(self):
        told = three_bales() + [so_look(n) for n in range(3)]
        self.assertEqual(play(told)[-3:], [[0, 60, 150], [4, 1, 1], [1, 1500, 1498]])

    def test_a_refused_bale_has_no_number(self):
        told = [so_start()] + stocked(same(1)) + [so_bale(1), so_bale(6), so_bale(0), so_look(0), so_look(1)]
        self.assertEqual(play(told)[3:], [[-6], [-2], [0, 6], [0, 6, 0], [-2]])

    def test_a_later_so_bay_changes_nothing_of_it(self):
        told = three_bales() + [so_bay(0, 5, 1000, 1, 1), so_bay(4, 0, 0, 10000, 1), so_bay(1, 0, 0, 0, 100)]
        told += [so_look(n) for n in range(3)] + [so_bales(), so_money()]
        self.assertEqual(play(told)[-5:], [[0, 60, 150], [4, 1, 1], [1, 1500, 1498], [3, 1561, 1649], [1649, 0]])

    def test_what_comes_to_the_bay_later_changes_nothing_of_it(self):
        told = three_bales() + stocked(same(100)) + [so_look(2), so_return(1), so_look(2)]
        self.assertEqual([play(told)[-3], play(told)[-1]], [[1, 1500, 1498]] * 2)

    def test_numbers_go_on_behind_one_that_was_taken_back(self):
        told = [so_start()] + stocked(only(0, 1)) + [so_bale(0)] + stocked(only(0, 2)) + [so_bale(0), so_back(), so_look(1)]
        told += [so_feed(only(0, 3)), so_run(), so_bale(0), so_look(1)]
        answered = play(told)
        self.assertEqual([answered[8], answered[-1]], [[-2], [0, 5, 0]])


class Worth(unittest.TestCase):
    def test_nothing_at_first(self):
        self.assertEqual(last([so_start(), so_worth()]), [0])
        self.assertEqual(last([so_start(), so_bay(3, 0, 0, 10000, 10), so_feed(same(9)), so_worth()]), [0])

    def test_what_good_mixes_bring_rounded_down_bay_by_bay(self):
        told = [so_start(), so_machine(1000, same(500)), so_bay(0, 0, 0, 1500, 100), so_bay(1, 0, 0, 1500, 100)]
        told += stocked(only(0, 14)) + [so_worth()]
        self.assertEqual(last(told), [20])

    def test_those_that_are_not_good_bring_nothing(self):
        told = [so_start(4), so_machine(1000, [1000, 1000, 0, 0, 0, 0]), so_bay(0, 0, 500, 1000, 100)]
        told += [so_bay(1, 5, 500, 1000, 100)]
        for mix, worth in (
            ([5, 5, 0, 0, 0, 5], 15), ([4, 5, 0, 0, 0, 5], 5), ([5, 5, 3, 3, 0, 5], 10), ([5, 5, 0, 0, 1, 5], 10),
            ([4, 5, 0, 0, 1, 5], 0), ([0, 0, 0, 0, 0, 5], 5),
        ):
            self.assertEqual(last(told + stocked(mix) + [so_worth()]), [worth])

    def test_all_six_bays(self):
        told = [so_start()] + [so_machine(1000, only(k, 1000)) for k in range(5)]
        told += [so_belt(k, 0, k) for k in range(5)] + [so_belt(k, 1, k + 7) for k in range(4)] + [so_belt(4, 1, 5)]
        told += [so_bay(i, i, 1000, 1000 * (i + 1), 100) for i in range(6)] + stocked([1, 1, 1, 1, 1, 1]) + [so_worth()]
        self.assertEqual(last(told), [21])

    def test_as_the_bays_are_now(self):
        told = [so_start(), so_bay(0, 0, 0, 3000, 100)] + stocked(only(1, 10)) + [so_worth(), so_bay(0, 0, 0, 500, 100)]
        told += [so_worth(), so_bay(0, 0, 1, 500, 100), so_worth(), so_bay(0, 1, 1000, 500, 10), so_worth()]
        told += [so_feed(only(1, 90)), so_worth(), so_bale(0), so_worth()]
        self.assertEqual(play(told)[4:], [[30], [0], [5], [0], [0], [0], [5], [90], [5], [5, 10], [0]])

    def test_it_is_what_was_told_of_the_best_settings(self):
        told = [so_start(), so_machine(1000, same(300)), so_setting(0, [1000, 0, 500, 0, 0, 0])]
        told += [so_bay(0, 0, 600, 7000, 1000), so_bay(1, 1, 400, 900, 1000)] + stocked([30, 1, 1, 1, 0, 0])
        told += [so_feed([100, 90, 80, 0, 0, 0]), so_worth(), so_best(), so_take(), so_worth(), so_run(), so_worth()]
        answered = play(told)
        self.assertEqual(answered[-5][0], answered[-1][0])
        self.assertEqual(answered[-4], answered[-1])
        self.assertEqual(answered[-6], answered[-3])
        self.assertNotEqual(answered[-6], answered[-1])


class Sums(unittest.TestCase):
    def test_nothing_at_first(self):
        self.assertEqual(play([so_start()] + sums_all())[1:], [[0] * 5] * 6)

    def test_a_kind_is_0_to_5(self):
        for kind in (6, 7, HIGHEST):
            self.assertEqual(last([so_start(), so_feed(same(1)), so_sums(kind)]), [-22])

    def test_fed_hopper_bays_baled_dumped(self):
        told = [so_start(), so_machine(100000, same(500))] + stocked([2, 4, 6, 8, 10, 12]) + [so_bale(0), so_dump(1, 1)]
        told += stocked([200, 400, 600, 800, 1000, 1200]) + [so_bale(0)] + stocked([20, 40, 60, 80, 100, 120])
        told += [so_feed([1, 1, 1, 2, 2, 2])] + sums_all()
        self.assertEqual(play(told)[-6:], [
            [223, 1, 120, 101, 1], [445, 1, 240, 202, 2], [667, 1, 360, 303, 3],
            [890, 2, 480, 404, 4], [1112, 2, 600, 505, 5], [1334, 2, 720, 606, 6],
        ])

    def test_what_is_returned_is_in_the_hopper_and_not_fed_anew(self):
        told = [so_start()] + stocked(only(2, 9)) + [so_sums(2), so_return(0), so_sums(2), so_run(), so_sums(2)]
        self.assertEqual(play(told)[3::2], [[9, 0, 9, 0, 0], [9, 9, 0, 0, 0], [9, 0, 9, 0, 0]])

    def test_in_all_bays_together(self):
        told = [so_start()] + [so_machine(100000, same(500))] * 5
        told += [so_belt(k, 0, k) for k in range(5)] + [so_belt(k, 1, k + 7) for k in range(4)] + [so_belt(4, 1, 5)]
        told += stocked([64, 128, 0, 3, 0, 999]) + sums_all()
        self.assertEqual(play(told)[-6:], [[kg, 0, kg, 0, 0] for kg in (64, 128, 0, 3, 0, 999)])

    def test_refused_feeds_and_dumps_do_not_count(self):
        told = [so_start()] + stocked(same(3)) + [so_feed(only(0, 10001)), so_dump(0, 1001), so_dump(1, 1), so_bale(7)]
        self.assertEqual(play(told + sums_all())[-6:], [[3, 0, 3, 0, 0]] * 6)

    def test_a_feed_that_was_taken_back_was_not_fed(self):
        told = [so_start(), so_feed(same(3)), so_feed(same(4)), so_back()] + sums_all()
        self.assertEqual(play(told)[-6:], [[3, 3, 0, 0, 0]] * 6)


class Money(unittest.TestCase):
    def test_nothing_at_first(self):
        self.assertEqual(last([so_start(), so_money()]), [0, 0])

    def test_what_bales_brought_and_dumping_cost(self):
        told = three_bales() + [so_money(), so_dump(1, 1), so_money()]
        self.assertEqual(play(told)[-3:], [[1649, 0], [1], [1649, 1]])

    def test_each_dump_is_rounded_up_by_itself(self):
        told = [so_start()] + (stocked(only(0, 1001)) + [so_dump(0, 1)]) * 3 + [so_money()]
        self.assertEqual(last(told), [0, 6])

    def test_refused_ones_cost_and_bring_nothing(self):
        told = [so_start(), so_bay(0, 0, 1000, 10000, 100)] + stocked(only(1, 9))
        self.assertEqual(play(told + [so_dump(0, 1001), so_dump(6, 1), so_bale(0), so_money()])[-2:], [[-33], [0, 0]])

    def test_a_return_costs_nothing(self):
        told = three_bales() + [so_return(1), so_run(), so_money()]
        self.assertEqual(last(told), [1649, 0])

    def test_what_was_taken_back_neither_brought_nor_cost(self):
        told = three_bales() + [so_dump(1, 1000), so_money(), so_back(), so_money(), so_back(), so_back(), so_back()]
        self.assertEqual([play(told)[-6], play(told)[-4]], [[1649, 18], [1649, 0]])
        self.assertEqual(last(told + [so_money()]), [151, 0])


class NothingChanged(unittest.TestCase):
    def test_none_of_these_changes_anything(self):
        told = three_bales()
        asked = [so_bales(), so_look(0), so_look(3), so_worth(), so_sums(2), so_sums(6), so_money()]
        self.assertEqual(play(told + asked + probe())[len(told + asked):], play(told + probe())[len(told):])


if __name__ == "__main__":
    unittest.main()
