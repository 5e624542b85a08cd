"""Point 2: so_machine, so_setting, so_turn, so_belt."""

import unittest

from tests.calls import (
    HIGHEST, last, only, play, same, so_belt, so_feed, so_loads, so_machine, so_setting, so_start, so_turn, so_would,
    would_all,
)

FIVE = [so_machine(1000000, same(500))] * 5


def with_one(kind, number):
    p = same(0)
    p[kind] = number
    return p


class Machines(unittest.TestCase):
    def test_they_are_numbered_from_0_and_there_are_at_most_5(self):
        answered = play([so_start()] + FIVE + [so_machine(1, same(0))])
        self.assertEqual(answered, [[0], [0], [1], [2], [3], [4], [-28]])

    def test_most_is_1_to_1_000_000(self):
        for most in (1, 2, 999999, 1000000):
            self.assertEqual(last([so_start(), so_machine(most, same(0))]), [0])
        for most in (0, 1000001, HIGHEST):
            self.assertEqual(last([so_start(), so_machine(most, same(0))]), [-22])

    def test_thousandths_are_at_most_1_000_for_each_kind(self):
        for kind in range(6):
            self.assertEqual(last([so_start(), so_machine(1, with_one(kind, 1000))]), [0])
            for number in (1001, HIGHEST):
                self.assertEqual(last([so_start(), so_machine(1, with_one(kind, number))]), [-22])

    def test_what_is_wrong_is_told_ahead_of_what_is_full(self):
        for wrong in (so_machine(0, same(0)), so_machine(1000001, same(0)), so_machine(1, with_one(5, 1001))):
            self.assertEqual(last([so_start()] + FIVE + [wrong]), [-22])

    def test_a_refused_machine_is_not_there(self):
        answered = play([so_start(), so_machine(0, same(0)), so_turn(0, 0), so_machine(1, same(0)), so_turn(0, 0)])
        self.assertEqual(answered[1:], [[-22], [-2], [0], [0]])

    def test_it_parts_as_setting_0_says_to_bays_0_and_1(self):
        told = [so_start(), so_machine(100000, [0, 1, 500, 999, 1000, 333]), so_feed([10, 999, 7, 1001, 8, 10])]
        sides = [[0, 0, 3, 999, 8, 3], [10, 999, 4, 2, 0, 7]]
        answered = play(told + would_all())[3:]
        self.assertEqual(answered[:2], [[sum(side)] + side for side in sides])
        self.assertEqual(answered[2:], [[0] * 7] * 4)

    def test_thousandths_are_rounded_down_at_each_machine(self):
        told = [so_start(), so_machine(100, same(999)), so_machine(100, same(999)), so_belt(0, 0, 7)]
        told += [so_feed(only(2, 1)), so_would(0), so_would(1)]
        self.assertEqual(play(told)[-2:], [[0] * 7, [1] + only(2, 1)])
        told[-3] = so_feed(only(2, 10))
        self.assertEqual(play(told)[-2:], [[8] + only(2, 8), [2] + only(2, 2)])


class Settings(unittest.TestCase):
    def test_a_machine_has_at_most_3(self):
        more = so_setting(0, same(5))
        answered = play([so_start(), so_machine(1, same(0)), more, more, more])
        self.assertEqual(answered, [[0], [0], [1], [2], [-28]])

    def test_each_machine_has_its_own(self):
        told = [so_start(), so_machine(1, same(0)), so_machine(1, same(0))]
        told += [so_setting(1, same(1)), so_setting(0, same(1)), so_setting(1, same(1))]
        self.assertEqual(play(told)[3:], [[1], [1], [2]])

    def test_of_a_machine_that_is_not_there(self):
        told = [so_start(), so_machine(1, same(0))]
        for k in (1, 2, 5, HIGHEST):
            self.assertEqual(last(told + [so_setting(k, same(0))]), [-2])
            self.assertEqual(last(told + [so_setting(k, same(1001))]), [-2])

    def test_thousandths_are_at_most_1_000_for_each_kind(self):
        told = [so_start(), so_machine(1, same(0))]
        for kind in range(6):
            self.assertEqual(last(told + [so_setting(0, with_one(kind, 1000))]), [1])
            self.assertEqual(last(told + [so_setting(0, with_one(kind, 1001))]), [-22])

    def test_what_is_wrong_is_told_ahead_of_what_is_full(self):
        told = [so_start(), so_machine(1, same(0)), so_setting(0, same(0)), so_setting(0, same(0))]
        self.assertEqual(last(told + [so_setting(0, with_one(3, 1001))]), [-22])
        self.assertEqual(last(told + [so_setting(0, with_one(3, 1000))]), [-28])

    def test_a_new_one_is_not_set_by_itself(self):
        told = [so_start(), so_machine(100, same(1000)), so_setting(0, same(0)), so_feed(only(0, 9))]
        self.assertEqual(last(told + [so_would(0)]), [9] + only(0, 9))
        self.assertEqual(last(told + [so_turn(0, 1), so_would(0)]), [0] * 7)
        self.assertEqual(last(told + [so_turn(0, 1), so_would(1)]), [9] + only(0, 9))


class Turning(unittest.TestCase):
    def test_it_answers_which_was_set(self):
        told = [so_start(), so_machine(1, same(0)), so_setting(0, same(1)), so_setting(0, same(2))]
        told += [so_turn(0, 2), so_turn(0, 1), so_turn(0, 1), so_turn(0, 0), so_turn(0, 0)]
        self.assertEqual(play(told)[4:], [[0], [2], [1], [1], [0]])

    def test_each_machine_is_turned_by_itself(self):
        told = [so_start()] + [so_machine(1, same(0)), so_machine(1, same(0))]
        told += [so_setting(0, same(1)), so_setting(1, same(1)), so_turn(1, 1), so_turn(0, 1), so_turn(1, 0)]
        self.assertEqual(play(told)[5:], [[0], [0], [1]])

    def test_of_a_machine_that_is_not_there(self):
        for k in (0, 1, HIGHEST):
            self.assertEqual(last([so_start(), so_turn(k, 0)]), [-2])
            self.assertEqual(last([so_start(), so_turn(k, 9)]), [-2])
        self.assertEqual(last([so_start()] + FIVE + [so_turn(5, 0)]), [-2])
        self.assertEqual(last([so_start()] + FIVE + [so_turn(4, 0)]), [0])

    def test_to_a_setting_that_it_has_not(self):
        told = [so_start(), so_machine(1, same(0)), so_setting(0, same(1)), so_machine(1, same(0))]
        for s in (2, 3, HIGHEST):
            self.assertEqual(play(told + [so_turn(0, s), so_turn(0, 1)])[4:], [[-22], [0]])
        self.assertEqual(last(told + [so_turn(1, 1)]), [-22])


class Belts(unittest.TestCase):
    def test_at_first_side_0_leads_to_bay_0_and_side_1_to_bay_1(self):
        for k in range(5):
            told = [so_start()] + FIVE
            self.assertEqual(play(told + [so_belt(k, 0, 5), so_belt(k, 1, 5)])[-2:], [[0], [1]])

    def test_it_answers_where_the_side_led(self):
        told = [so_start()] + FIVE + [so_belt(1, 0, 5), so_belt(1, 1, 8), so_belt(1, 0, 10), so_belt(1, 1, 0)]
        told += [so_belt(1, 0, 10), so_belt(1, 1, 2)]
        self.assertEqual(play(told)[6:], [[0], [1], [5], [8], [10], [0]])

    def test_of_a_machine_that_is_not_there(self):
        for k in (0, 5, HIGHEST):
            self.assertEqual(last([so_start(), so_belt(k, 0, 0)]), [-2])
            self.assertEqual(last([so_start(), so_belt(k, 2, HIGHEST)]), [-2])

    def test_there_are_two_sides(self):
        told = [so_start()] + FIVE
        for side in (2, 3, HIGHEST):
            self.assertEqual(last(told + [so_belt(0, side, 0)]), [-22])

    def test_it_leads_to_a_bay_or_to_a_later_machine_alone(self):
        for k in range(5):
            for side in (0, 1):
                for to in list(range(13)) + [HIGHEST]:
                    right = to < 6 or k < to - 6 < 5
                    answer = last([so_start()] + FIVE + [so_belt(k, side, to)])
                    self.assertEqual(answer, [side] if right else [-22], (k, side, to))

    def test_it_leads_to_no_machine_that_is_not_there_yet(self):
        told = [so_start(), so_machine(1, same(0)), so_belt(0, 0, 7), so_machine(1, same(0)), so_belt(0, 0, 7)]
        self.assertEqual(play(told)[2:], [[-22], [1], [0]])

    def test_a_refused_belt_leads_where_it_led(self):
        told = [so_start()] + FIVE + [so_belt(2, 0, 8), so_belt(2, 0, 11), so_belt(2, 2, 3), so_belt(2, 0, 1)]
        self.assertEqual(play(told)[6:], [[-22], [-22], [-22], [0]])

    def test_what_goes_along_it_comes_where_it_leads(self):
        told = [so_start(), so_machine(1000, same(400)), so_machine(1000, same(500)), so_machine(1000, same(100))]
        told += [so_belt(0, 0, 8), so_belt(0, 1, 7), so_belt(1, 0, 8), so_belt(1, 1, 5), so_belt(2, 0, 3)]
        told += [so_belt(2, 1, 4), so_feed(only(1, 100)), so_loads()]
        answered = play(told + would_all())
        self.assertEqual(answered[-7], [1, 100, 60, 70, 0, 0])
        self.assertEqual([answer[0] for answer in answered[-6:]], [0, 0, 0, 7, 63, 30])

    def test_both_sides_may_lead_to_one_place(self):
        told = [so_start(), so_machine(1000, same(333)), so_belt(0, 0, 4), so_belt(0, 1, 4), so_feed(same(10))]
        self.assertEqual(last(told + [so_would(4)]), [60] + same(10))
        told = [so_start(), so_machine(1000, same(333)), so_machine(1000, same(1000)), so_belt(0, 0, 7)]
        told += [so_belt(0, 1, 7), so_feed(same(10))]
        self.assertEqual(play(told + [so_would(0), so_loads()])[-2:], [[60] + same(10), [1, 60, 60, 0, 0, 0]])


if __name__ == "__main__":
    unittest.main()
