"""Point 4: so_run, so_bale, so_dump, so_return."""

import unittest

from tests.calls import (
    HIGHEST, last, only, play, same, so_bale, so_bay, so_belt, so_dump, so_feed, so_loads, so_machine, so_pure,
    so_return, so_run, so_setting, so_start, so_turn, so_would, stocked, would_all,
)


class Running(unittest.TestCase):
    def test_an_empty_hopper(self):
        self.assertEqual(last([so_start(), so_run()]), [-6])
        self.assertEqual(last([so_start(), so_feed(only(0, 1)), so_run(), so_run()]), [-6])

    def test_without_machines_all_comes_to_bay_0(self):
        told = [so_start(), so_feed([1, 2, 3, 4, 5, 6]), so_run(), so_run()] + [so_pure(i) for i in range(6)]
        told += [so_return(0), so_would(0)]
        self.assertEqual(play(told)[2:], [[21], [-6], [47, 1]] + [[-6]] * 5 + [[21], [21, 1, 2, 3, 4, 5, 6]])

    def test_it_parts_by_the_settings_as_they_are(self):
        told = [so_start(), so_machine(1000, same(1000)), so_setting(0, same(250)), so_turn(0, 1)]
        told += [so_belt(0, 0, 3), so_belt(0, 1, 4), so_feed(only(1, 10)), so_run(), so_dump(3, 1000), so_dump(4, 1000)]
        self.assertEqual(play(told)[-3:], [[10], [2], [8]])

    def test_what_comes_is_added_to_what_a_bay_has(self):
        told = [so_start()] + stocked([1, 2, 3, 4, 5, 6]) + stocked(only(3, 100)) + [so_return(0), so_would(0)]
        self.assertEqual(last(told), [121, 1, 2, 3, 104, 5, 6])

    def test_a_machine_parts_no_more_than_it_can_at_once(self):
        told = [so_start(), so_machine(99, same(500)), so_feed(only(0, 99)), so_run()]
        self.assertEqual(last(told), [99])
        told[2] = so_feed(only(0, 100))
        self.assertEqual(last(told), [-62])

    def test_all_that_comes_to_a_machine_is_parted_at_once(self):
        told = [so_start(), so_machine(1000, same(500)), so_machine(100, same(500)), so_belt(0, 0, 7), so_belt(0, 1, 7)]
        self.assertEqual(last(told + [so_feed(only(0, 100)), so_run()]), [100])
        self.assertEqual(last(told + [so_feed(only(0, 101)), so_run()]), [-62])

    def test_a_bay_holds_no_more_than_it_does_with_what_it_has(self):
        told = [so_start(), so_bay(0, 0, 0, 0, 100)] + stocked(only(0, 60))
        self.assertEqual(last(told + [so_feed(only(1, 40)), so_run()]), [40])
        self.assertEqual(last(told + [so_feed(only(1, 41)), so_run()]), [-62])

    def test_the_last_bay_counts_too(self):
        told = [so_start(), so_machine(1000, same(0)), so_belt(0, 1, 5), so_bay(5, 0, 0, 0, 7)]
        self.assertEqual(last(told + [so_feed(only(1, 7)), so_run()]), [7])
        self.assertEqual(last(told + [so_feed(only(1, 8)), so_run()]), [-62])

    def test_refused_it_leaves_hopper_and_bays(self):
        told = [so_start(), so_bay(0, 0, 0, 0, 100)] + stocked(only(0, 60)) + [so_feed(only(1, 41)), so_run()]
        told += [so_would(0), so_pure(0), so_dump(0, 1000), so_run(), so_dump(0, 1000)]
        self.assertEqual(play(told)[5:], [[-62], [41] + only(1, 41), [1000, 1], [60], [41], [41]])

    def test_a_machine_made_later_takes_no_part_in_what_was_run(self):
        told = [so_start()] + stocked(only(0, 60)) + [so_machine(5, same(0)), so_pure(0), so_pure(1)]
        self.assertEqual(play(told)[-2:], [[1000, 1], [-6]])


class Baling(unittest.TestCase):
    def test_it_answers_what_it_brings_and_its_kilograms(self):
        told = [so_start(), so_bay(0, 0, 0, 2500, 1000)] + stocked([1, 2, 3, 4, 5, 6])
        self.assertEqual(last(told + [so_bale(0)]), [52, 21])

    def test_what_it_brings_is_rounded_down(self):
        for kg, price, money in ((1, 999, 0), (1, 1000, 1), (1999, 1, 1), (2000, 1, 2), (7, 10000, 70), (5, 0, 0)):
            told = [so_start(), so_bay(0, 0, 0, price, 10000)] + stocked(only(0, kg)) + [so_bale(0)]
            self.assertEqual(last(told), [money, kg])

    def test_the_bay_is_empty_then(self):
        told = [so_start()] + stocked(only(0, 5)) + [so_bale(0), so_bale(0), so_pure(0), so_return(0), so_would(0)]
        self.assertEqual(play(told)[3:], [[0, 5], [-6], [-6], [-6], [0] * 7])

    def test_a_bay_that_is_not_there(self):
        for i in (6, HIGHEST):
            self.assertEqual(last([so_start(), so_bale(i)]), [-2])

    def test_it_is_pure_enough_exactly(self):
        for mix, pure, right in (
            ([999, 1, 0, 0, 0, 0], 999, True), ([998, 1, 0, 0, 0, 0], 999, False), ([999, 0, 0, 0, 0, 0], 1000, True),
            ([9999, 0, 0, 1, 0, 0], 1000, False), ([1, 2, 0, 0, 0, 0], 333, True), ([1, 2, 0, 0, 0, 0], 334, False),
            ([0, 1, 0, 0, 0, 0], 0, True), ([0, 1, 0, 0, 0, 0], 1, False),
        ):
            told = [so_start(), so_bay(0, 0, pure, 0, 100000)] + stocked(mix) + [so_bale(0)]
            self.assertEqual(last(told), [0, sum(mix)] if right else [-33])

    def test_each_bay_for_its_own_kind(self):
        for kind in range(6):
            told = [so_start(), so_machine(100, same(0)), so_belt(0, 1, kind), so_bay(kind, kind, 501, 1000, 50)]
            mix = same(1)
            mix[kind] = 6
            self.assertEqual(last(told + [so_feed(mix), so_run(), so_bale(kind)]), [11, 11])
            mix[kind] = 5
            self.assertEqual(last(told + [so_feed(mix), so_run(), so_bale(kind)]), [-33])

    def test_nothing_that_does_harm_is_in_it(self):
        for harm in range(6):
            told = [so_start(harm)] + stocked([1 if kind != harm else 0 for kind in range(6)])
            self.assertEqual(last(told + [so_bale(0)]), [0, 5])
            self.assertEqual(last(told + stocked(only(harm, 1)) + [so_bale(0)]), [-33])
        self.assertEqual(last([so_start(6)] + stocked(same(1)) + [so_bale(0)]), [0, 6])

    def test_harm_is_harm_in_the_bay_for_that_kind_too(self):
        told = [so_start(2), so_bay(0, 2, 1000, 10, 1000)] + stocked(only(2, 9)) + [so_bale(0)]
        self.assertEqual(last(told), [-33])

    def test_there_are_at_most_40(self):
        bale = stocked(only(0, 1)) + [so_bale(0)]
        answered = play([so_start()] + bale * 41 + [so_pure(0), so_dump(0, 1000), so_bale(0)])
        self.assertEqual(answered[3:121:3], [[0, 1]] * 40)
        self.assertEqual(answered[123:], [[-28], [1000, 1], [1], [-6]])

    def test_what_is_empty_or_not_good_is_told_ahead_of_40(self):
        told = [so_start(5)] + (stocked(only(0, 1)) + [so_bale(0)]) * 40
        self.assertEqual(last(told + [so_bale(6)]), [-2])
        self.assertEqual(last(told + [so_bale(0)]), [-6])
        self.assertEqual(last(told + stocked(only(5, 1)) + [so_bale(0)]), [-33])

    def test_refused_it_leaves_the_bay(self):
        told = [so_start(5)] + stocked([1, 2, 3, 4, 5, 6]) + [so_bale(0), so_return(0), so_would(0)]
        self.assertEqual(play(told)[3:], [[-33], [21], [21, 1, 2, 3, 4, 5, 6]])


class Dumping(unittest.TestCase):
    def test_what_it_costs_is_rounded_up(self):
        for kg, price, cost in (
            (1, 1, 1), (1000, 1, 1), (1001, 1, 2), (1999, 1, 2), (2000, 1, 2), (3, 1000, 3), (7, 0, 0), (1, 999, 1),
            (1003, 997, 1000),
        ):
            self.assertEqual(last([so_start()] + stocked(only(4, kg)) + [so_dump(0, price)]), [cost])

    def test_a_bay_that_is_not_there(self):
        for i in (6, HIGHEST):
            self.assertEqual(last([so_start(), so_dump(i, 0)]), [-2])
            self.assertEqual(last([so_start(), so_dump(i, 1001)]), [-2])

    def test_the_price_is_at_most_1_000(self):
        told = [so_start()] + stocked(only(4, 10))
        for price in (1001, HIGHEST):
            self.assertEqual(play(told + [so_dump(0, price), so_dump(0, 1000)])[3:], [[-22], [10]])

    def test_the_price_is_looked_at_ahead_of_an_empty_bay(self):
        self.assertEqual(last([so_start(), so_dump(3, 1001)]), [-22])
        self.assertEqual(last([so_start(), so_dump(3, 1000)]), [-6])

    def test_the_bay_is_empty_then_and_others_are_not(self):
        told = [so_start(), so_machine(100, same(500)), so_feed(only(1, 11)), so_run(), so_dump(0, 1), so_dump(0, 1)]
        told += [so_pure(0), so_return(1), so_would(1)]
        self.assertEqual(play(told)[4:], [[1], [-6], [-6], [6], [3] + only(1, 3)])

    def test_harm_may_be_dumped(self):
        self.assertEqual(last([so_start(1)] + stocked(only(1, 10)) + [so_dump(0, 500)]), [5])


class Returning(unittest.TestCase):
    def test_it_answers_how_much_the_hopper_has(self):
        told = [so_start()] + stocked([1, 2, 3, 4, 5, 6]) + [so_feed(only(0, 100)), so_return(0), so_would(0)]
        self.assertEqual(play(told)[4:], [[121], [121, 101, 2, 3, 4, 5, 6]])

    def test_the_bay_is_empty_then(self):
        told = [so_start()] + stocked(only(1, 5)) + [so_return(0), so_return(0), so_pure(0), so_run(), so_dump(0, 1000)]
        self.assertEqual(play(told)[3:], [[5], [-6], [-6], [5], [5]])

    def test_a_bay_that_is_not_there(self):
        for i in (6, HIGHEST):
            self.assertEqual(last([so_start(), so_return(i)]), [-2])

    def test_an_empty_bay(self):
        full = [so_start(), so_feed(same(10000)), so_feed([10000, 10000, 10000, 10000, 0, 0])]
        for i in range(6):
            self.assertEqual(last([so_start(), so_return(i)]), [-6])
            self.assertEqual(last(full + [so_return(i)]), [-6])

    def test_the_hopper_holds_100_000(self):
        told = [so_start()] + stocked(same(10000)) + [so_feed([10000, 10000, 10000, 9999, 0, 0]), so_feed(only(5, 1))]
        self.assertEqual(last(told + [so_return(0)]), [100000])
        told += [so_feed(only(5, 1))]
        self.assertEqual(play(told + [so_return(0), so_pure(0), so_would(0)])[-3:],
                         [[-62], [166, 1], [40001, 10000, 10000, 10000, 9999, 0, 2]])

    def test_a_bay_with_more_than_a_hopper_holds(self):
        told = [so_start()] + stocked(same(10000)) * 2 + [so_return(0), so_dump(0, 1)]
        self.assertEqual(play(told)[-2:], [[-62], [120]])

    def test_it_may_be_more_of_a_kind_than_can_be_fed_at_once(self):
        told = [so_start()] + stocked(only(0, 10000)) * 10 + [so_return(0), so_would(0)]
        self.assertEqual(play(told)[-2:], [[100000], [100000] + only(0, 100000)])

    def test_what_is_returned_can_be_run_again(self):
        told = [so_start(), so_machine(1000, same(500)), so_feed(only(0, 100)), so_run(), so_return(1), so_loads()]
        told += would_all() + [so_run(), so_dump(0, 1000), so_dump(1, 1000)]
        self.assertEqual(play(told)[4:8], [[50], [1, 50, 0, 0, 0, 0], [25] + only(0, 25), [25] + only(0, 25)])
        self.assertEqual(play(told)[-3:], [[50], [75], [25]])


if __name__ == "__main__":
    unittest.main()
