"""Points 1 to 6 once more: what the later calls tell of what the earlier ones did, or didn't."""

import unittest

from tests.calls import (
    HIGHEST, in_all, last, only, play, same, so_bale, so_bales, so_bay, so_belt, so_belts, so_best, so_dump, so_feed,
    so_goes, so_hopper, so_in, so_look, so_machine, so_money, so_often, so_pure, so_return, so_run, so_setting, so_sets,
    so_split, so_start, so_state, so_sums, so_take, so_turn, so_worth, so_would, stocked, sums_all, would_all,
)

FIRST = [so_hopper(), so_sets(), so_belts(), so_bales(), so_worth(), so_money()] + in_all() + sums_all()
AS_AT_FIRST = [[0] * 7, [1] + [0] * 5, [0] * 11, [0] * 3, [0], [0] * 2] + [[0] * 7] * 6 + [[0] * 5] * 6


class Starts(unittest.TestCase):
    def test_all_is_as_at_first(self):
        for harm in range(7):
            self.assertEqual(play([so_start(harm), so_state()] + FIRST), [[0], [0, harm, 0, 0, 0]] + AS_AT_FIRST)

    def test_and_with_another_start(self):
        told = [so_start(1), so_machine(9, same(1)), so_setting(0, same(2)), so_turn(0, 1), so_belt(0, 1, 5)]
        told += [so_bay(5, 2, 3, 4, 5), so_feed([1, 0, 1, 1, 1, 1]), so_run(), so_bale(5), so_feed(same(1)), so_run()]
        told += [so_dump(5, 9), so_feed(same(1)), so_run(), so_return(5), so_start(4), so_state()]
        self.assertEqual(play(told + FIRST)[-len(FIRST) - 1:], [[0, 4, 0, 0, 0]] + AS_AT_FIRST)

    def test_refused_all_stays(self):
        told = [so_start(1), so_machine(9, same(1)), so_feed(same(1)), so_run()]
        for harm in (7, HIGHEST):
            answered = play(told + [so_start(harm), so_state(), so_in(1)])
            self.assertEqual(answered[4:], [[-22], [1, 1, 0, 3, 0], [6] + same(1)])


class Machines(unittest.TestCase):
    def test_what_it_is_made_with(self):
        told = [so_start(), so_machine(9, [1, 20, 300, 999, 1000, 0])]
        told += [so_split(0, 0, kind, 1000) for kind in range(6)] + [so_sets(), so_belts(), so_state()]
        self.assertEqual(play(told)[2:], [[1], [20], [300], [999], [1000], [0], [1] + [0] * 5, [1, 0, 1] + [0] * 8,
                                          [1, 6, 0, 1, 0]])

    def test_another_one_leaves_the_others(self):
        told = [so_start(), so_machine(9, same(1)), so_setting(0, same(2)), so_turn(0, 1), so_belt(0, 0, 3)]
        told += [so_machine(9, same(5)), so_belts(), so_sets(), so_split(0, 0, 0, 1000), so_split(1, 0, 0, 1000)]
        self.assertEqual(play(told)[5:], [[1], [2, 3, 1, 0, 1] + [0] * 6, [2, 1, 0, 0, 0, 0], [2], [5]])

    def test_refused_there_is_none_more(self):
        for most, p in ((0, same(1)), (1000001, same(1)), (1, only(5, 1001)), (HIGHEST, same(HIGHEST))):
            self.assertEqual(play([so_start(), so_machine(most, p), so_state()])[1:], [[-22], [0, 6, 0, 0, 0]])
        told = [so_start()] + [so_machine(1, same(1))] * 6 + [so_state(), so_machine(0, same(1))]
        self.assertEqual(play(told)[6:], [[-28], [5, 6, 0, 5, 0], [-22]])

    def test_another_setting_is_not_set_by_itself(self):
        told = [so_start(), so_machine(9, same(1)), so_setting(0, same(700)), so_sets(), so_split(0, 0, 3, 1000)]
        told += [so_goes(3, 1000), so_turn(0, 1), so_sets(), so_split(0, 0, 3, 1000), so_goes(3, 1000)]
        self.assertEqual(play(told)[3:], [
            [2, 0, 0, 0, 0, 0], [1], [1, 1, 999, 0, 0, 0, 0], [0], [2, 1, 0, 0, 0, 0], [700], [1, 700, 300, 0, 0, 0, 0],
        ])

    def test_a_refused_turn_leaves_what_is_set(self):
        told = [so_start(), so_machine(9, same(1)), so_setting(0, same(2)), so_turn(0, 1), so_turn(0, 2), so_turn(1, 0)]
        self.assertEqual(play(told + [so_sets()])[4:], [[-22], [-2], [2, 1, 0, 0, 0, 0]])


class FeedAndRun(unittest.TestCase):
    def test_a_feed_at_its_edges(self):
        told = [so_start(), so_feed(same(10000)), so_feed([10000, 10000, 10000, 9999, 0, 0]), so_feed(only(5, 2))]
        told += [so_sums(5), so_feed(only(5, 1)), so_hopper(), so_feed(only(5, 1)), so_sums(5)]
        self.assertEqual(play(told)[3:], [
            [-62], [10000, 10000, 0, 0, 0], [100000], [100000, 20000, 20000, 20000, 19999, 10000, 10001], [-62],
            [10001, 10001, 0, 0, 0],
        ])

    def test_100_000_000_kilograms_ever_fed(self):
        # More calls than a line holds: the edge lies beyond them.
        told = [so_start()] + [so_feed(same(10000)), so_run(), so_dump(0, 0)] * 1666
        told += [so_feed([10000, 10000, 10000, 9999, 0, 0]), so_run(), so_dump(0, 0)]
        answered = play(told + [so_feed(only(4, 2)), so_sums(4), so_feed(only(4, 1)), so_feed(only(4, 1)), so_sums(4)])
        fed = 1666 * 10000
        self.assertEqual(answered[-5:], [[-28], [fed, 0, 0, 0, fed], [1], [-28], [fed + 1, 1, 0, 0, fed]])

    def test_what_would_come_is_what_is_in_the_bays_then(self):
        told = [so_start()] + stocked([1, 2, 3, 4, 5, 6]) + [so_machine(9999, [1, 10, 100, 300, 500, 999])]
        told += [so_machine(9999, same(333)), so_belt(0, 0, 7), so_belt(0, 1, 4), so_belt(1, 0, 0), so_belt(1, 1, 2)]
        told += [so_feed([601, 502, 403, 304, 205, 106])]
        answered = play(told + would_all() + [so_run(), so_hopper()] + in_all())
        would = answered[len(told):len(told) + 6]
        self.assertEqual(answered[-8:-6], [[2121], [0] * 7])
        self.assertEqual(answered[-6][1:], [a + b for a, b in zip(would[0][1:], [1, 2, 3, 4, 5, 6])])
        self.assertEqual(answered[-5:], would[1:])
        self.assertEqual([sum(of_kind) for of_kind in zip(*would)], [2121, 601, 502, 403, 304, 205, 106])

    def test_what_would_come_of_each_kind_is_where_that_goes(self):
        mix = [601, 502, 403, 304, 205, 106]
        told = [so_start(), so_machine(9, [1, 10, 100, 300, 500, 999]), so_machine(9, same(333)), so_belt(0, 1, 7)]
        told += [so_belt(1, 0, 5), so_feed(mix)]
        goes = play(told + [so_goes(kind, mix[kind]) for kind in range(6)])[-6:]
        would = play(told + would_all())[-6:]
        self.assertEqual([list(of_bay[1:]) for of_bay in would], [list(of_bay) for of_bay in zip(*[g[1:] for g in goes])])


class OutOfBays(unittest.TestCase):
    def test_a_bale(self):
        told = [so_start(), so_bay(0, 1, 500, 1500, 100)] + stocked([4, 5, 0, 0, 0, 0])
        told += [so_bale(0), so_in(0), so_sums(1), so_bales(), so_look(0), so_money(), so_worth()]
        self.assertEqual(play(told)[4:], [[13, 9], [0] * 7, [5, 0, 0, 5, 0], [1, 9, 13], [0, 9, 13], [13, 0], [0]])

    def test_a_bale_that_is_not_good(self):
        told = [so_start(), so_bay(0, 1, 501, 1500, 100)] + stocked([5, 5, 0, 0, 0, 0])
        told += [so_bale(0), so_in(0), so_sums(1), so_bales(), so_look(0), so_money(), so_state()]
        self.assertEqual(play(told)[4:], [
            [-33], [10, 5, 5, 0, 0, 0, 0], [5, 0, 5, 0, 0], [0, 0, 0], [-2], [0, 0], [0, 6, 0, 3, 0],
        ])

    def test_a_forty_first_bale(self):
        told = [so_start()] + (stocked(only(0, 1)) + [so_bale(0)]) * 41 + [so_state(), so_bales(), so_in(0), so_sums(0)]
        self.assertEqual(play(told)[-5:], [[-28], [0, 6, 40, 30, 0], [40, 40, 0], [1] + only(0, 1), [41, 0, 1, 40, 0]])

    def test_a_dump(self):
        told = [so_start()] + stocked([4, 5, 0, 0, 0, 2]) + [so_dump(0, 100), so_in(0), so_sums(1), so_sums(5), so_money()]
        told += [so_bales(), so_hopper()]
        self.assertEqual(play(told)[3:], [[2], [0] * 7, [5, 0, 0, 0, 5], [2, 0, 0, 0, 2], [0, 2], [0] * 3, [0] * 7])

    def test_a_return(self):
        told = [so_start()] + stocked([4, 5, 0, 0, 0, 2]) + [so_feed(same(1)), so_return(0), so_in(0), so_hopper()]
        self.assertEqual(play(told + [so_sums(1), so_money()])[4:], [
            [17], [0] * 7, [17, 5, 6, 1, 1, 1, 3], [6, 6, 0, 0, 0], [0, 0],
        ])


class BestAndPure(unittest.TestCase):
    def two_choices(self):
        told = [so_start(), so_machine(1000, same(0)), so_setting(0, only(0, 1000)), so_setting(0, same(1000))]
        told += [so_bay(0, 0, 900, 5000, 1000), so_bay(1, 1, 0, 10, 1000)] + stocked(only(2, 7)) + [so_turn(0, 2)]
        return told + [so_feed([10, 20, 0, 0, 0, 0])]

    def test_the_best_are_told_set_and_worth_that_indeed(self):
        told = self.two_choices() + [so_best(), so_sets(), so_take(), so_sets(), so_run(), so_worth(), so_in(0)]
        self.assertEqual(play(told)[-7:], [
            [50, 1, 0, 0, 0, 0], [3, 2, 0, 0, 0, 0], [50], [3, 1, 0, 0, 0, 0], [30], [50], [10] + only(0, 10),
        ])

    def test_none_that_fit_are_worth_more(self):
        for s in range(3):
            told = self.two_choices() + [so_turn(0, s), so_run(), so_worth()]
            self.assertLessEqual(last(told)[0], 50)

    def test_a_refused_take_sets_nothing(self):
        told = self.two_choices() + [so_feed(only(0, 1000)), so_take(), so_sets(), so_best()]
        self.assertEqual(play(told)[-3:], [[-33], [3, 2, 0, 0, 0, 0], [-33]])

    def test_good_is_what_needs_no_more_times(self):
        told = [so_start(4), so_bay(0, 1, 700, 0, 1000)]
        for mix, right in (
            ([3, 7, 0, 0, 0, 0], True), ([4, 7, 0, 0, 0, 0], False), ([0, 7, 0, 0, 1, 0], False), ([0, 0, 3, 0, 0, 0], False),
        ):
            pure, often = play(told + stocked(mix) + [so_pure(0), so_often(0)])[-2:]
            self.assertEqual(pure, [1000 * mix[1] // sum(mix), 1 if right else 0])
            self.assertEqual(often, [0, sum(mix)] if right else [-33])

    def test_what_would_come_is_not_in_the_bay_yet(self):
        told = [so_start(), so_feed(same(5)), so_would(0), so_in(0), so_hopper()]
        self.assertEqual(play(told)[2:], [[30] + same(5), [0] * 7, [30] + same(5)])


if __name__ == "__main__":
    unittest.main()
