"""Point 3: so_bay, so_feed."""

import unittest

from tests.calls import (
    HIGHEST, last, only, play, same, so_bale, so_bay, so_dump, so_feed, so_loads, so_pure, so_return, so_run,
    so_start, so_would, stocked,
)


class Bays(unittest.TestCase):
    def test_the_highest_of_all(self):
        for i in range(6):
            self.assertEqual(last([so_start(), so_bay(i, 5, 1000, 10000, 1000000)]), [0])
            self.assertEqual(last([so_start(), so_bay(i, 0, 0, 0, 1)]), [0])

    def test_a_bay_that_is_not_there(self):
        for i in (6, 7, HIGHEST):
            self.assertEqual(last([so_start(), so_bay(i, 0, 0, 0, 1)]), [-2])
            self.assertEqual(last([so_start(), so_bay(i, 6, 1001, 10001, 0)]), [-2])

    def test_what_is_wrong(self):
        wrong = [(6, 0, 0, 1), (HIGHEST, 0, 0, 1), (0, 1001, 0, 1), (0, HIGHEST, 0, 1), (0, 0, 10001, 1)]
        wrong += [(0, 0, HIGHEST, 1), (0, 0, 0, 0), (0, 0, 0, 1000001), (0, 0, 0, HIGHEST)]
        for kind, pure, price, most in wrong:
            self.assertEqual(last([so_start(), so_bay(0, kind, pure, price, most)]), [-22])

    def test_it_can_not_hold_less_than_it_has(self):
        told = [so_start()] + stocked(only(3, 500))
        self.assertEqual(last(told + [so_bay(0, 0, 0, 0, 499)]), [-62])
        self.assertEqual(last(told + [so_bay(0, 0, 0, 0, 500)]), [0])
        self.assertEqual(last(told + [so_bay(1, 0, 0, 0, 1)]), [0])

    def test_what_is_wrong_is_told_ahead_of_what_has_no_room(self):
        told = [so_start()] + stocked(only(3, 500))
        for wrong in (so_bay(0, 6, 0, 0, 1), so_bay(0, 0, 1001, 0, 1), so_bay(0, 0, 0, 10001, 1), so_bay(0, 0, 0, 0, 0)):
            self.assertEqual(last(told + [wrong]), [-22])

    def test_what_it_has_stays(self):
        told = [so_start()] + stocked([1, 2, 3, 4, 5, 6]) + [so_bay(0, 5, 0, 0, 21), so_return(0), so_would(0)]
        self.assertEqual(last(told), [21, 1, 2, 3, 4, 5, 6])

    def test_kind_pure_price_and_most_are_as_told(self):
        told = [so_start()] + stocked([1, 2, 3, 4, 5, 6])
        told += [so_bay(0, 2, 142, 1000, 21), so_pure(0), so_bay(0, 2, 143, 1000, 21), so_pure(0)]
        told += [so_feed(only(0, 1)), so_loads(), so_bay(0, 2, 142, 1000, 22), so_loads(), so_bale(0)]
        self.assertEqual(play(told)[4:], [[142, 1], [0], [142, 0], [1], [0] * 6, [0], [1] + [0] * 5, [21, 21]])

    def test_a_refused_one_leaves_the_bay(self):
        told = [so_start(), so_bay(0, 2, 142, 1000, 21)] + stocked([1, 2, 3, 4, 5, 6])
        told += [so_bay(0, 5, 0, 9000, 20), so_bay(0, 5, 0, 9000, 0), so_bay(0, 5, 0, 10001, 50)]
        told += [so_pure(0), so_feed(only(0, 1)), so_run(), so_bale(0)]
        self.assertEqual(play(told)[4:], [[-62], [-22], [-22], [142, 1], [1], [-62], [21, 21]])


class Feeding(unittest.TestCase):
    def test_it_answers_how_much_the_hopper_has(self):
        told = [so_start(), so_feed([1, 2, 3, 4, 5, 6]), so_feed(only(5, 10)), so_would(0)]
        self.assertEqual(play(told)[1:], [[21], [31], [31, 1, 2, 3, 4, 5, 16]])

    def test_10_000_of_a_kind(self):
        for kind in range(6):
            self.assertEqual(last([so_start(), so_feed(only(kind, 10000))]), [10000])
            for kg in (10001, HIGHEST):
                self.assertEqual(last([so_start(), so_feed(only(kind, kg))]), [-22])
        self.assertEqual(last([so_start(), so_feed(same(10000))]), [60000])

    def test_nothing_is_not_fed(self):
        self.assertEqual(last([so_start(), so_feed(same(0))]), [-22])
        self.assertEqual(last([so_start(), so_feed(only(4, 1))]), [1])

    def test_the_hopper_holds_100_000(self):
        told = [so_start(), so_feed(same(10000)), so_feed([10000, 10000, 10000, 9999, 0, 0])]
        self.assertEqual(play(told)[1:], [[60000], [99999]])
        self.assertEqual(last(told + [so_feed(only(2, 2))]), [-62])
        self.assertEqual(play(told + [so_feed(only(2, 1)), so_feed(only(0, 1))])[3:], [[100000], [-62]])

    def test_what_is_wrong_is_told_ahead_of_what_has_no_room(self):
        full = [so_start(), so_feed(same(10000)), so_feed([10000, 10000, 10000, 10000, 0, 0])]
        self.assertEqual(last(full), [100000])
        self.assertEqual(last(full + [so_feed(same(0))]), [-22])
        self.assertEqual(last(full + [so_feed(only(1, 10001))]), [-22])

    def test_refused_it_leaves_the_hopper(self):
        told = [so_start(), so_feed(same(10000)), so_feed(same(9999)), so_feed(only(0, 10001)), so_would(0)]
        self.assertEqual(play(told)[2:], [[-62], [-22], [60000] + same(10000)])


class EverFed(unittest.TestCase):
    """100,000,000 kilograms take more than a thousand calls; nothing else shows this edge."""

    def nearly(self):
        """Calls behind which 99,960,000 kilograms were fed; bay 0 has the last 60,000 of them."""
        told = [so_start()]
        for batch in range(111):
            told += stocked(same(10000)) * 15 + [so_dump(0, 0)]
        return told + stocked(same(10000))

    def test_the_edge(self):
        told = self.nearly()
        more = [so_feed([10000, 10000, 10000, 10000, 1, 0]), so_feed([10000, 10000, 10000, 10000, 0, 0])]
        more += [so_feed(only(5, 1)), so_run(), so_feed(only(0, 1)), so_feed(same(0))]
        self.assertEqual(play(told + more)[len(told):], [[-28], [40000], [-28], [40000], [-28], [-22]])

    def test_no_room_is_told_first(self):
        told = self.nearly() + [so_return(0)]
        more = [so_feed([10000, 10000, 10000, 10000, 1, 0]), so_feed([10000, 10000, 10000, 10000, 0, 0])]
        more += [so_feed(only(0, 1)), so_run(), so_feed(only(0, 1))]
        self.assertEqual(play(told + more)[len(told) - 1:], [[60000], [-62], [100000], [-62], [100000], [-28]])

    def test_what_is_returned_is_not_fed_again(self):
        told = self.nearly() + [so_dump(0, 0), so_feed([10000, 10000, 10000, 9999, 0, 0])]
        more = [so_run(), so_return(0), so_run(), so_return(0), so_feed(only(0, 1)), so_feed(only(0, 1))]
        self.assertEqual(play(told + more)[len(told):], [[39999], [39999], [39999], [39999], [40000], [-28]])

    def test_a_start_begins_anew(self):
        told = self.nearly() + [so_feed([10000, 10000, 10000, 10000, 0, 0]), so_start(), so_feed(same(10000))]
        self.assertEqual(last(told), [60000])


if __name__ == "__main__":
    unittest.main()
