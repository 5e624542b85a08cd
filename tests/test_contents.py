"""Point 8: so_hopper, so_in, so_sets, so_belts."""

import unittest

from tests.calls import (
    HIGHEST, in_all, last, only, play, probe, same, so_bale, so_bay, so_belt, so_belts, so_dump, so_feed, so_hopper,
    so_in, so_machine, so_return, so_run, so_setting, so_sets, so_start, so_take, so_turn, stocked,
)


class Hopper(unittest.TestCase):
    def test_nothing_at_first(self):
        self.assertEqual(last([so_start(), so_hopper()]), [0] * 7)

    def test_its_mix_kind_by_kind(self):
        told = [so_start(), so_feed([1, 2, 3, 4, 5, 6]), so_hopper(), so_feed([10, 0, 0, 0, 0, 9]), so_hopper()]
        self.assertEqual(play(told)[2:], [[21, 1, 2, 3, 4, 5, 6], [40], [40, 11, 2, 3, 4, 5, 15]])

    def test_full(self):
        told = [so_start(), so_feed(same(10000)), so_feed(only(5, 10000)), so_feed([0, 10000, 10000, 10000, 0, 0])]
        self.assertEqual(last(told + [so_hopper()]), [100000, 10000, 20000, 20000, 20000, 10000, 20000])

    def test_a_refused_feed_is_not_in_it(self):
        told = [so_start(), so_feed(same(1)), so_feed(only(0, 10001)), so_feed(same(0)), so_hopper()]
        self.assertEqual(last(told), [6] + same(1))

    def test_what_is_run_is_gone_and_what_is_returned_is_back(self):
        told = [so_start(), so_machine(100, [500, 0, 0, 0, 0, 500]), so_feed([1, 2, 3, 4, 5, 6]), so_run(), so_hopper()]
        told += [so_return(0), so_hopper(), so_return(1), so_hopper()]
        self.assertEqual(play(told)[4:], [[0] * 7, [3], [3, 0, 0, 0, 0, 0, 3], [21], [21, 1, 2, 3, 4, 5, 6]])

    def test_a_refused_run_leaves_it(self):
        told = [so_start(), so_machine(20, same(0)), so_feed([1, 2, 3, 4, 5, 6]), so_run(), so_hopper()]
        self.assertEqual(play(told)[3:], [[-62], [21, 1, 2, 3, 4, 5, 6]])


class In(unittest.TestCase):
    def test_nothing_at_first(self):
        self.assertEqual(play([so_start(), so_feed(same(1))] + in_all())[2:], [[0] * 7] * 6)

    def test_a_bay_that_is_not_there(self):
        for i in (6, 7, HIGHEST):
            self.assertEqual(last([so_start(), so_in(i)]), [-2])

    def test_each_bays_mix(self):
        told = [so_start()] + [so_machine(1000, only(k, 1000)) for k in range(5)]
        told += [so_belt(k, 0, k) for k in range(5)] + [so_belt(k, 1, k + 7) for k in range(4)] + [so_belt(4, 1, 5)]
        told += [so_feed([11, 12, 13, 14, 15, 16]), so_run()] + in_all()
        self.assertEqual(play(told)[-6:], [[11 + i] + only(i, 11 + i) for i in range(6)])

    def test_with_what_it_had(self):
        told = [so_start()] + stocked([1, 2, 3, 4, 5, 6]) + stocked(only(3, 100)) + [so_in(0)]
        self.assertEqual(last(told), [121, 1, 2, 3, 104, 5, 6])

    def test_baled_dumped_and_returned_it_is_empty(self):
        for out in (so_bale(0), so_dump(0, 3), so_return(0)):
            told = [so_start(), so_machine(100, same(500)), so_feed(same(2)), so_run(), out, so_in(0), so_in(1)]
            self.assertEqual(play(told)[5:], [[0] * 7, [6] + same(1)])

    def test_refused_it_stays(self):
        told = [so_start(2)] + stocked([1, 2, 3, 4, 5, 6]) + [so_bale(0), so_dump(0, 1001), so_bay(0, 0, 0, 0, 20)]
        told += [so_feed(same(10000)), so_feed([10000, 10000, 10000, 9980, 0, 0]), so_return(0), so_in(0)]
        self.assertEqual(play(told)[3:], [[-33], [-22], [-62], [60000], [99980], [-62], [21, 1, 2, 3, 4, 5, 6]])

    def test_what_it_has_stays_with_another_so_bay(self):
        told = [so_start()] + stocked([1, 2, 3, 4, 5, 6]) + [so_bay(0, 5, 1000, 10000, 21), so_in(0)]
        self.assertEqual(play(told)[3:], [[0], [21, 1, 2, 3, 4, 5, 6]])


class Sets(unittest.TestCase):
    def test_without_machines(self):
        self.assertEqual(last([so_start(), so_sets()]), [1, 0, 0, 0, 0, 0])

    def test_one_machine(self):
        told = [so_start(), so_machine(1, same(1)), so_sets(), so_setting(0, same(2)), so_sets(), so_setting(0, same(3))]
        told += [so_sets(), so_turn(0, 2), so_sets(), so_turn(0, 1), so_sets()]
        self.assertEqual(play(told)[2::2], [[1] + [0] * 5, [2] + [0] * 5, [3] + [0] * 5, [3, 2, 0, 0, 0, 0], [3, 1, 0, 0, 0, 0]])

    def test_several_machines_of_several_settings(self):
        told = [so_start()] + [so_machine(1, same(1))] * 4
        told += [so_setting(0, same(2)), so_setting(2, same(2)), so_setting(2, same(3)), so_setting(3, same(3))]
        self.assertEqual(last(told + [so_sets()]), [12, 0, 0, 0, 0, 0])
        told += [so_turn(0, 1), so_turn(2, 2), so_turn(3, 1)]
        self.assertEqual(last(told + [so_sets()]), [12, 1, 0, 2, 1, 0])
        told += [so_machine(1, same(1)), so_setting(4, same(1)), so_turn(4, 1), so_turn(3, 0)]
        self.assertEqual(last(told + [so_sets()]), [24, 1, 0, 2, 0, 1])

    def test_five_of_three(self):
        told = [so_start()] + [so_machine(1, same(1))] * 5
        told += [so_setting(k, same(s)) for k in range(5) for s in (2, 3)] + [so_turn(k, (k + 1) % 3) for k in range(5)]
        self.assertEqual(last(told + [so_sets()]), [243, 1, 2, 0, 1, 2])

    def test_refused_settings_do_not_count(self):
        told = [so_start(), so_machine(1, same(1)), so_setting(0, same(1001)), so_setting(1, same(1)), so_turn(0, 1)]
        self.assertEqual(last(told + [so_sets()]), [1, 0, 0, 0, 0, 0])
        told += [so_setting(0, same(1)), so_setting(0, same(1)), so_setting(0, same(1)), so_machine(0, same(1)), so_sets()]
        self.assertEqual(last(told), [3, 0, 0, 0, 0, 0])

    def test_those_that_were_taken(self):
        told = [so_start(), so_machine(1000, same(0)), so_machine(1000, same(0)), so_setting(0, same(1000))]
        told += [so_setting(1, same(0)), so_setting(1, same(1000)), so_belt(0, 0, 7), so_bay(0, 0, 0, 1000, 1000)]
        told += [so_feed(only(0, 10)), so_take(), so_sets()]
        self.assertEqual(play(told)[-2:], [[10], [6, 1, 2, 0, 0, 0]])


class Belts(unittest.TestCase):
    def test_without_machines(self):
        self.assertEqual(last([so_start(), so_belts()]), [0] + [0] * 10)

    def test_at_first_to_bay_0_and_bay_1(self):
        for count in range(1, 6):
            told = [so_start()] + [so_machine(1, same(1))] * count + [so_belts()]
            self.assertEqual(last(told), [count] + [0, 1] * count + [0, 0] * (5 - count))

    def test_where_each_side_leads(self):
        told = [so_start()] + [so_machine(1, same(1))] * 4
        told += [so_belt(0, 0, 9), so_belt(0, 1, 7), so_belt(1, 1, 8), so_belt(2, 0, 5), so_belt(3, 1, 4), so_belt(3, 0, 3)]
        self.assertEqual(last(told + [so_belts()]), [4, 9, 7, 0, 8, 5, 1, 3, 4, 0, 0])

    def test_a_refused_belt_leads_where_it_led(self):
        told = [so_start()] + [so_machine(1, same(1))] * 2 + [so_belt(0, 1, 7)]
        refused = [so_belt(0, 2, 5), so_belt(0, 0, 6), so_belt(0, 0, 8), so_belt(1, 0, 7), so_belt(2, 0, 0), so_belt(1, 1, 6)]
        answered = play(told + refused + [so_belts()])
        self.assertEqual(answered[4:], [[-22], [-22], [-22], [-22], [-2], [-22], [2, 0, 7, 0, 1, 0, 0, 0, 0, 0, 0]])


class NothingChanged(unittest.TestCase):
    def test_none_of_these_changes_anything(self):
        told = [so_start(), so_machine(1000, same(300)), so_setting(0, same(4)), so_turn(0, 1), so_feed(same(7)), so_run()]
        told += [so_feed(same(9))]
        asked = [so_hopper(), so_in(0), so_in(6), so_sets(), so_belts()]
        self.assertEqual(play(told + asked + probe())[len(told + asked):], play(told + probe())[len(told):])


if __name__ == "__main__":
    unittest.main()
