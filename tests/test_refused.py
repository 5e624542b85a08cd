"""A call that is refused leaves all as it was."""

import unittest

from tests.calls import (
    HIGHEST, last, only, play, probe, same, so_again, so_back, so_bale, so_bay, so_belt, so_best, so_dump, so_feed,
    so_goes, so_in, so_look, so_machine, so_often, so_pure, so_return, so_run, so_setting, so_split, so_start, so_state,
    so_sums, so_take, so_turn, so_would,
)

RICH = [
    so_start(4),
    so_machine(70000, [900, 100, 300, 700, 500, 0]), so_setting(0, same(450)), so_setting(0, same(1)),
    so_machine(60000, same(250)), so_setting(1, same(750)), so_machine(5000, same(500)),
    so_machine(80000, same(10)), so_machine(90000, same(20)),
    so_belt(0, 0, 7), so_belt(0, 1, 10), so_belt(1, 0, 8), so_belt(1, 1, 2), so_belt(2, 1, 3), so_belt(4, 0, 5),
    so_turn(0, 1), so_turn(1, 1),
    so_bay(0, 1, 100, 900, 5000), so_bay(1, 2, 10, 800, 4000), so_bay(2, 3, 20, 700, 90000), so_bay(5, 0, 0, 60, 3000),
    so_feed([500, 600, 700, 800, 3, 1000]), so_run(), so_bale(3), so_dump(5, 50),
    so_feed([5000, 6000, 7000, 8000, 0, 9000]),
]

REFUSED = [
    (so_start(7), -22), (so_machine(0, same(0)), -22), (so_machine(1, same(0)), -28),
    (so_setting(5, same(0)), -2), (so_setting(1, only(2, 1001)), -22), (so_setting(0, same(0)), -28),
    (so_turn(5, 0), -2), (so_turn(0, 3), -22), (so_turn(2, 1), -22),
    (so_belt(5, 0, 0), -2), (so_belt(0, 2, 0), -22), (so_belt(1, 0, 7), -22), (so_belt(0, 0, 11), -22),
    (so_bay(6, 0, 0, 0, 1), -2), (so_bay(0, 6, 0, 0, 1000000), -22), (so_bay(1, 0, 1001, 0, 1000000), -22),
    (so_bay(2, 0, 0, 10001, 1000000), -22), (so_bay(5, 0, 0, 0, 1000001), -22), (so_bay(1, 0, 0, 0, 1), -62),
    (so_feed(same(0)), -22), (so_feed([10001, 1, 1, 1, 1, 1]), -22),
    (so_run(), -62), (so_bale(6), -2), (so_bale(1), -33), (so_bale(4), -6),
    (so_dump(HIGHEST, 0), -2), (so_dump(0, 1001), -22), (so_dump(4, 0), -6),
    (so_return(6), -2), (so_return(4), -6), (so_take(), -33), (so_best(), -33),
    (so_would(6), -2), (so_pure(6), -2), (so_pure(4), -6),
    (so_often(6), -2), (so_often(4), -33), (so_goes(6, 0), -22), (so_goes(0, 100001), -22),
    (so_split(5, 0, 0, 0), -2), (so_split(4, 2, 0, 0), -22), (so_split(4, 0, 6, 0), -22), (so_split(4, 0, 0, 100001), -22),
    (so_in(6), -2), (so_look(1), -2), (so_look(HIGHEST), -2), (so_sums(6), -22), (so_again(), -2),
]


class Refused(unittest.TestCase):
    def assertLeavesAll(self, told, refused, number):
        plain = play(told + [so_state()] + probe())
        tried = play(told + [refused, so_state()] + probe())
        self.assertEqual(tried[len(told)], [number], refused)
        self.assertEqual(tried[:len(told)] + tried[len(told) + 1:], plain, refused)

    def test_nothing_of_the_rich_works_is_refused(self):
        self.assertTrue(all(answer[0] >= 0 for answer in play(RICH)))

    def test_each_refusal(self):
        for refused, number in REFUSED:
            self.assertLeavesAll(RICH, refused, number)

    def test_all_one_behind_another(self):
        plain = play(RICH + probe())
        tried = play(RICH + [refused for refused, number in REFUSED] + probe())
        middle = len(RICH) + len(REFUSED)
        self.assertEqual(tried[len(RICH):middle], [[number] for refused, number in REFUSED])
        self.assertEqual(tried[:len(RICH)] + tried[middle:], plain)

    def test_when_there_is_nothing_to_take_back(self):
        self.assertLeavesAll([so_start()], so_back(), -2)
        self.assertLeavesAll([so_start(), so_feed(same(5)), so_back()], so_back(), -2)
        self.assertLeavesAll(RICH + [so_back()] * 30, so_back(), -2)

    def test_when_something_was_taken_back(self):
        for refused, number in REFUSED:
            if refused != so_again():
                told = RICH + [so_feed(only(0, 1)), so_back()]
                self.assertLeavesAll(told, refused, number)
                self.assertEqual(last(told + [refused, so_again()]), [0], refused)

    def test_a_full_hopper(self):
        full = RICH + [so_feed(same(10000)), so_feed([5000, 0, 0, 0, 0, 0])]
        self.assertLeavesAll(full, so_feed(only(0, 1)), -62)
        self.assertLeavesAll(full, so_return(2), -62)

    def test_an_empty_hopper(self):
        self.assertLeavesAll(RICH[:-1], so_run(), -6)

    def test_forty_bales(self):
        told = [so_start()] + [so_feed(only(0, 1)), so_run(), so_bale(0)] * 40 + [so_feed(only(0, 1)), so_run()]
        self.assertLeavesAll(told, so_bale(0), -28)


if __name__ == "__main__":
    unittest.main()
