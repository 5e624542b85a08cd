"""Points 5 and 6, but for the best settings: so_would, so_loads, so_pure."""

import unittest

from tests.calls import (
    HIGHEST, last, only, play, same, so_bay, so_belt, so_feed, so_loads, so_machine, so_pure, so_run, so_setting,
    so_start, so_turn, so_would, stocked, would_all,
)


class Would(unittest.TestCase):
    def test_a_bay_that_is_not_there(self):
        for i in (6, 7, HIGHEST):
            self.assertEqual(last([so_start(), so_feed(only(0, 1)), so_would(i)]), [-2])

    def test_an_empty_hopper(self):
        self.assertEqual(play([so_start(), so_machine(1, same(1))] + would_all())[2:], [[0] * 7] * 6)

    def test_without_machines(self):
        told = [so_start(), so_feed([1, 2, 3, 4, 5, 6])] + would_all()
        self.assertEqual(play(told)[2:], [[21, 1, 2, 3, 4, 5, 6]] + [[0] * 7] * 5)

    def test_what_the_bay_has_is_not_told(self):
        told = [so_start()] + stocked(same(100)) + [so_feed([1, 2, 3, 4, 5, 6]), so_would(0)]
        self.assertEqual(last(told), [21, 1, 2, 3, 4, 5, 6])

    def test_whether_it_fits_is_not_looked_at(self):
        told = [so_start(), so_machine(1, same(500)), so_bay(0, 0, 0, 0, 1), so_feed(same(10)), so_would(0), so_run()]
        self.assertEqual(play(told)[4:], [[30] + same(5), [-62]])

    def test_by_the_settings_as_they_are(self):
        told = [so_start(), so_machine(1000, same(1000)), so_setting(0, same(100)), so_feed(same(10))]
        told += [so_would(1), so_turn(0, 1), so_would(1), so_turn(0, 0), so_would(1)]
        self.assertEqual(play(told)[4:], [[0] * 7, [0], [54] + same(9), [1], [0] * 7])

    def test_it_changes_nothing(self):
        told = [so_start(), so_machine(1000, same(500)), so_feed(same(10)), so_would(0), so_would(0), so_run()]
        self.assertEqual(play(told)[3:], [[30] + same(5), [30] + same(5), [60]])


class Loads(unittest.TestCase):
    def test_without_machines(self):
        self.assertEqual(last([so_start(), so_loads()]), [1, 0, 0, 0, 0, 0])
        self.assertEqual(last([so_start(), so_feed(same(1)), so_loads()]), [1, 0, 0, 0, 0, 0])
        told = [so_start(), so_bay(0, 0, 0, 0, 6), so_feed(same(1))]
        self.assertEqual(last(told + [so_loads()]), [1, 0, 0, 0, 0, 0])
        self.assertEqual(last(told + [so_feed(only(0, 1)), so_loads()]), [0, 0, 0, 0, 0, 0])

    def test_five_machines_in_a_row(self):
        told = [so_start()] + [so_machine(1000, same(500))] * 5 + [so_belt(k, 0, k + 7) for k in range(4)]
        told += [so_feed(only(0, 1000)), so_loads()]
        self.assertEqual(last(told), [1, 1000, 500, 250, 125, 62])

    def test_each_machine_parts_no_more_than_it_can(self):
        loads = [1000, 500, 250, 125, 62]
        for k in range(5):
            for most, right in ((loads[k], 1), (loads[k] - 1, 0)):
                told = [so_start()] + [so_machine(most if j == k else 1000, same(500)) for j in range(5)]
                told += [so_belt(j, 0, j + 7) for j in range(4)] + [so_feed(only(0, 1000)), so_loads(), so_run()]
                self.assertEqual(play(told)[-2:], [[right] + loads, [1000] if right else [-62]])

    def test_each_bay_holds_no_more_than_it_does(self):
        shares = [500, 250, 125, 62, 31, 32]
        for i in range(6):
            for most, right in ((shares[i], 1), (shares[i] - 1, 0)):
                told = [so_start()] + [so_machine(1000, same(500))] * 5
                told += [so_belt(k, 0, k) for k in range(5)] + [so_belt(k, 1, k + 7) for k in range(4)]
                told += [so_belt(4, 1, 5), so_bay(i, 0, 0, 0, most), so_feed(only(0, 1000)), so_loads()]
                answered = play(told)
                self.assertEqual(answered[-1], [right, 1000, 500, 250, 125, 63])

    def test_a_machine_that_nothing_comes_to(self):
        told = [so_start(), so_machine(1000, same(500)), so_machine(1, same(500)), so_feed(same(100)), so_loads()]
        self.assertEqual(last(told), [1, 600, 0, 0, 0, 0])

    def test_it_changes_nothing(self):
        told = [so_start(), so_machine(1000, same(500)), so_feed(same(10)), so_loads(), so_loads(), so_run()]
        self.assertEqual(play(told)[3:], [[1, 60, 0, 0, 0, 0], [1, 60, 0, 0, 0, 0], [60]])


class Pure(unittest.TestCase):
    def test_a_bay_that_is_not_there(self):
        for i in (6, HIGHEST):
            self.assertEqual(last([so_start(), so_pure(i)]), [-2])

    def test_an_empty_bay(self):
        for i in range(6):
            self.assertEqual(last([so_start(), so_feed(same(1)), so_pure(i)]), [-6])

    def test_thousandths_are_rounded_down(self):
        for mix, thousandths in (
            ([2, 1, 0, 0, 0, 0], 666), ([1, 2, 0, 0, 0, 0], 333), ([9999, 1, 0, 0, 0, 0], 999),
            ([1, 0, 0, 0, 1000, 0], 0), ([1, 0, 0, 0, 999, 0], 1), ([0, 5, 0, 0, 0, 0], 0), ([5, 0, 0, 0, 0, 0], 1000),
        ):
            self.assertEqual(last([so_start()] + stocked(mix) + [so_pure(0)]), [thousandths, 1])

    def test_good_is_exact_not_rounded(self):
        told = [so_start(), so_bay(0, 0, 667, 0, 100)] + stocked([2, 1, 0, 0, 0, 0]) + [so_pure(0)]
        self.assertEqual(last(told), [666, 0])
        told[1] = so_bay(0, 0, 666, 0, 100)
        self.assertEqual(last(told), [666, 1])
        told = [so_start(), so_bay(0, 0, 1000, 0, 10000)] + stocked([9999, 1, 0, 0, 0, 0]) + [so_pure(0)]
        self.assertEqual(last(told), [999, 0])

    def test_harm_in_it(self):
        for harm in range(7):
            told = [so_start(harm)] + stocked([990, 2, 2, 2, 2, 2]) + [so_pure(0)]
            self.assertEqual(last(told), [990, 1 if harm == 6 else 0])
            told = [so_start(harm)] + stocked([0 if kind == harm else 1 for kind in range(6)]) + [so_pure(0)]
            self.assertEqual(last(told)[1], 1)

    def test_of_the_bays_own_kind(self):
        mix = [10, 20, 30, 40, 50, 850]
        for kind in range(6):
            told = [so_start(), so_bay(0, kind, 0, 0, 1000)] + stocked(mix) + [so_pure(0)]
            self.assertEqual(last(told), [mix[kind], 1])

    def test_the_hopper_has_no_part_in_it(self):
        told = [so_start()] + stocked(only(0, 5)) + [so_feed(only(1, 5)), so_pure(0)]
        self.assertEqual(last(told), [1000, 1])


if __name__ == "__main__":
    unittest.main()
