"""Point 7: so_goes and so_split."""

import unittest

from tests.calls import (
    HIGHEST, last, only, play, probe, same, so_bay, so_belt, so_feed, so_goes, so_in, so_machine, so_run, so_setting,
    so_split, so_start, so_turn, would_all,
)


class Goes(unittest.TestCase):
    def test_without_machines(self):
        for kind in range(6):
            self.assertEqual(last([so_start(), so_goes(kind, 77)]), [0, 77, 0, 0, 0, 0, 0])

    def test_a_kind_is_0_to_5(self):
        for told in ([so_start()], [so_start(), so_machine(1, same(1))]):
            self.assertEqual(last(told + [so_goes(5, 1)])[0], len(told) - 1)
            for kind in (6, 7, HIGHEST):
                self.assertEqual(last(told + [so_goes(kind, 1)]), [-22])
                self.assertEqual(last(told + [so_goes(kind, 100001)]), [-22])

    def test_at_most_100_000_kilograms(self):
        told = [so_start(), so_machine(1, same(250))]
        self.assertEqual(last(told + [so_goes(2, 100000)]), [1, 25000, 75000, 0, 0, 0, 0])
        self.assertEqual(last([so_start(), so_goes(2, 100000)]), [0, 100000, 0, 0, 0, 0, 0])
        for kg in (100001, HIGHEST):
            self.assertEqual(last(told + [so_goes(2, kg)]), [-22])
            self.assertEqual(last([so_start(), so_goes(2, kg)]), [-22])

    def test_none_of_it(self):
        told = [so_start()] + [so_machine(1, same(250))] * 5
        self.assertEqual(last(told + [so_goes(0, 0)]), [5, 0, 0, 0, 0, 0, 0])
        self.assertEqual(last([so_start(), so_goes(5, 0)]), [0, 0, 0, 0, 0, 0, 0])

    def test_it_is_rounded_down_to_side_0(self):
        told = [so_start(), so_machine(1, [1, 999, 333, 500, 0, 1000]), so_belt(0, 0, 5), so_belt(0, 1, 2)]
        for kind, kg, side in (
            (0, 999, 0), (0, 1000, 1), (0, 1999, 1), (1, 1, 0), (1, 2, 1), (1, 1000, 999), (2, 3, 0), (2, 4, 1),
            (3, 7, 3), (3, 1, 0), (4, 5000, 0), (5, 5000, 5000),
        ):
            self.assertEqual(last(told + [so_goes(kind, kg)]), [1, 0, 0, kg - side, 0, 0, side])

    def test_it_is_parted_machine_by_machine(self):
        told = [so_start()] + [so_machine(1, same(500))] * 5
        told += [so_belt(k, 0, k) for k in range(5)] + [so_belt(k, 1, k + 7) for k in range(4)] + [so_belt(4, 1, 5)]
        self.assertEqual(last(told + [so_goes(3, 1000)]), [5, 500, 250, 125, 62, 31, 32])
        self.assertEqual(last(told + [so_goes(3, 3)]), [5, 1, 1, 0, 0, 0, 1])

    def test_all_that_comes_to_a_machine_is_parted_at_once(self):
        told = [so_start(), so_machine(1, same(500)), so_machine(1, same(500)), so_belt(0, 0, 7), so_belt(0, 1, 7)]
        # Parted by itself, neither 1 nor 1 would go to side 0.
        self.assertEqual(last(told + [so_goes(0, 2)]), [2, 1, 1, 0, 0, 0, 0])

    def test_both_sides_to_one_bay(self):
        told = [so_start(), so_machine(1, same(333)), so_belt(0, 0, 4), so_belt(0, 1, 4), so_goes(1, 100)]
        self.assertEqual(last(told), [1, 0, 0, 0, 0, 100, 0])

    def test_a_machine_that_nothing_comes_to_is_counted(self):
        told = [so_start()] + [so_machine(1, same(100 * k)) for k in range(1, 4)]
        self.assertEqual(last(told + [so_goes(1, 10)]), [3, 1, 9, 0, 0, 0, 0])

    def test_by_the_settings_as_they_are(self):
        told = [so_start(), so_machine(1, same(0)), so_setting(0, only(3, 900)), so_goes(3, 10), so_turn(0, 1)]
        told += [so_goes(3, 10), so_goes(2, 10), so_turn(0, 0), so_goes(3, 10)]
        self.assertEqual(play(told)[3:], [
            [1, 0, 10, 0, 0, 0, 0], [0], [1, 9, 1, 0, 0, 0, 0], [1, 0, 10, 0, 0, 0, 0], [1], [1, 0, 10, 0, 0, 0, 0],
        ])

    def test_neither_what_fits_nor_hopper_nor_bays_are_looked_at(self):
        told = [so_start(), so_bay(0, 0, 0, 0, 10), so_feed(only(1, 10)), so_run(), so_machine(5, same(900))]
        told += [so_feed(only(1, 70)), so_goes(1, 100)]
        self.assertEqual(last(told), [1, 90, 10, 0, 0, 0, 0])

    def test_it_is_what_comes_of_a_feed_of_one_kind(self):
        told = [so_start(), so_machine(10000, same(617)), so_machine(10000, same(83)), so_machine(10000, same(291))]
        told += [so_belt(0, 0, 7), so_belt(0, 1, 8), so_belt(1, 0, 2), so_belt(1, 1, 8), so_belt(2, 0, 5), so_belt(2, 1, 3)]
        for kg in (1, 10, 999, 9998):
            told_of = last(told + [so_goes(4, kg)])
            ran = play(told + [so_feed(only(4, kg)), so_run()] + [so_in(i) for i in range(6)])
            self.assertEqual(told_of[1:], [answer[0] for answer in ran[-6:]])
            self.assertEqual(sum(told_of[1:]), kg)

    def test_it_changes_nothing(self):
        told = [so_start(), so_machine(1000, same(300)), so_feed(same(7)), so_run(), so_feed(same(9))]
        asked = [so_goes(0, 100), so_goes(6, 0), so_goes(5, 100000)]
        self.assertEqual(play(told + asked + probe())[8:], play(told + probe())[5:])


class Split(unittest.TestCase):
    def test_a_machine_that_is_not_there_is_looked_at_first(self):
        self.assertEqual(last([so_start(), so_split(0, 0, 0, 0)]), [-2])
        self.assertEqual(last([so_start(), so_split(0, 2, 6, 100001)]), [-2])
        told = [so_start()] + [so_machine(1, same(1))] * 5
        self.assertEqual(last(told + [so_split(4, 0, 0, 0)]), [0])
        for k in (5, 6, HIGHEST):
            self.assertEqual(last(told + [so_split(k, 0, 0, 0)]), [-2])
            self.assertEqual(last(told + [so_split(k, HIGHEST, HIGHEST, HIGHEST)]), [-2])

    def test_wrong_numbers(self):
        told = [so_start(), so_machine(1, same(500))]
        self.assertEqual(last(told + [so_split(0, 1, 5, 100000)]), [50000])
        for side, kind, kg in (
            (2, 5, 10), (HIGHEST, 0, 0), (1, 6, 10), (0, HIGHEST, 0), (1, 5, 100001), (0, 0, HIGHEST), (2, 6, 100001),
        ):
            self.assertEqual(last(told + [so_split(0, side, kind, kg)]), [-22])

    def test_both_sides_and_rounding(self):
        told = [so_start(), so_machine(1, [1, 999, 333, 500, 0, 1000])]
        for kind, kg, first in (
            (0, 999, 0), (0, 1000, 1), (0, 100000, 100), (1, 1, 0), (1, 2, 1), (1, 100000, 99900), (2, 3, 0), (2, 4, 1),
            (3, 7, 3), (4, 100000, 0), (5, 100000, 100000), (5, 0, 0), (0, 0, 0),
        ):
            self.assertEqual(play(told + [so_split(0, 0, kind, kg), so_split(0, 1, kind, kg)])[2:], [[first], [kg - first]])

    def test_that_machine_by_the_setting_that_is_set(self):
        told = [so_start(), so_machine(1, same(100)), so_machine(1, same(200)), so_setting(1, same(300))]
        told += [so_split(0, 0, 2, 10), so_split(1, 0, 2, 10), so_turn(1, 1), so_split(1, 0, 2, 10), so_split(1, 1, 2, 10)]
        told += [so_split(0, 0, 2, 10)]
        self.assertEqual(play(told)[4:], [[1], [2], [0], [3], [7], [1]])

    def test_where_belts_lead_is_not_looked_at(self):
        told = [so_start(), so_machine(1, same(100)), so_machine(1, same(200)), so_belt(0, 0, 4), so_belt(0, 1, 4)]
        self.assertEqual(play(told + [so_split(0, 0, 0, 10), so_split(0, 1, 0, 10), so_split(1, 0, 0, 10)])[-3:],
                         [[1], [9], [2]])

    def test_it_changes_nothing(self):
        told = [so_start(), so_machine(1000, same(300)), so_feed(same(7))] + would_all()
        asked = [so_split(0, 0, 0, 100), so_split(0, 1, 5, 100000), so_split(1, 0, 0, 0)]
        self.assertEqual(play(told + asked + probe())[len(told) + 3:], play(told + probe())[len(told):])


if __name__ == "__main__":
    unittest.main()
