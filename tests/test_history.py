"""Points 1 and 11: changes, so_back, so_again, so_state."""

import unittest

from tests.calls import (
    last, only, play, probe, same, so_again, so_back, so_bale, so_bay, so_belt, so_dump, so_feed, so_hopper, so_in,
    so_loads, so_machine, so_return, so_run, so_setting, so_sets, so_split, so_start, so_state, so_take, so_turn,
    so_worth, telling,
)
from tests.test_refused import REFUSED, RICH

# A works in which each of the eleven changes is taken, and tells on what is asked behind it.
READY = [
    so_start(3),
    so_machine(5000, [900, 100, 300, 700, 500, 0]), so_setting(0, [0, 1000, 1000, 0, 250, 750]),
    so_machine(4000, same(250)), so_setting(1, same(750)), so_belt(0, 0, 7), so_belt(1, 1, 2), so_turn(1, 1),
    so_bay(0, 1, 80, 900, 5000), so_bay(1, 2, 10, 800, 4000), so_bay(2, 4, 5, 700, 9000),
    so_feed([500, 600, 700, 0, 3, 1000]), so_run(), so_bale(0), so_feed([50, 60, 70, 0, 90, 10]),
]

ELEVEN = [
    so_machine(3000, [1, 2, 3, 4, 5, 6]), so_setting(1, [6, 5, 4, 3, 2, 1]), so_turn(0, 1), so_belt(0, 1, 7),
    so_bay(2, 5, 40, 9000, 8000), so_feed([7, 6, 5, 4, 3, 2]), so_run(), so_bale(2), so_dump(1, 77), so_return(1),
    so_take(),
]


def feeds(count):
    return [so_feed(only(0, 1)) for step in range(count)]


class EachChange(unittest.TestCase):
    def told_behind(self, calls):
        """What is told of the works then, by asking and by changing it further, but for the changes' numbers."""
        return play(calls + probe())[len(calls):]

    def test_each_is_taken_and_tells(self):
        before = self.told_behind(READY)
        for change in ELEVEN:
            self.assertGreaterEqual(last(READY + [change])[0], 0, change)
            self.assertNotEqual(play(READY + [change] + telling())[len(READY) + 1:], before[:len(telling())], change)
        self.assertEqual([change[0] for change in ELEVEN], list(range(1, 12)))

    def test_each_is_taken_back(self):
        before = self.told_behind(READY)
        for change in ELEVEN:
            self.assertEqual(self.told_behind(READY + [change, so_back()]), before, change)

    def test_each_is_done_again(self):
        for change in ELEVEN:
            behind = self.told_behind(READY + [change])
            self.assertEqual(self.told_behind(READY + [change, so_back(), so_again()]), behind, change)
            twice = READY + [change, so_back(), so_again(), so_back(), so_again()]
            self.assertEqual(self.told_behind(twice), behind, change)
            before = self.told_behind(READY)
            self.assertEqual(self.told_behind(READY + [change, so_back(), so_again(), so_back()]), before, change)

    def test_each_counts_one(self):
        machines, harm, bales, back, again = last(READY + [so_state()])
        self.assertEqual([machines, harm, bales, back, again], [2, 3, 1, len(READY) - 1, 0])
        for change in ELEVEN:
            told = play(READY + [change, so_state(), so_back(), so_state(), so_again(), so_state()])[len(READY) + 1:]
            then = [machines + (change[0] == 1), harm, bales + (change[0] == 8), back + 1, 0]
            self.assertEqual(told, [then, [back], [machines, harm, bales, back, 1], [0], then], change)

    def test_all_eleven_one_behind_another(self):
        order = [so_feed(only(4, 4)), so_machine(3000, same(500)), so_setting(2, same(1000)), so_belt(0, 1, 8), so_turn(2, 1)]
        order += [so_bay(1, 0, 0, 3000, 4000), so_return(1), so_take(), so_run(), so_dump(2, 1), so_bale(1)]
        stands = [play(READY + order[:count] + telling())[len(READY) + count:] for count in range(12)]
        self.assertTrue(all(answer[0] >= 0 for answer in play(READY + order)))
        for count in range(12):
            told = READY + order + [so_back()] * count
            self.assertEqual(play(told + telling())[len(told):], stands[11 - count])
            told += [so_again()] * count
            self.assertEqual(play(told + telling())[len(told):], stands[11])
        told = READY + order + [so_back()] * 11 + [so_again()] * 4
        self.assertEqual(play(told + telling())[len(told):], stands[4])

    def test_what_asking_can_not_tell_is_taken_back_too(self):
        fed = [so_feed(only(0, 100))]
        told = [so_start(), so_machine(100, same(0))] + fed
        self.assertEqual(play(told + [so_loads(), so_back(), so_back(), so_machine(99, same(0))] + fed + [so_loads()])[3::5],
                         [[1, 100, 0, 0, 0, 0], [0, 100, 0, 0, 0, 0]])
        told = [so_start(), so_bay(0, 0, 0, 0, 99), so_feed(only(0, 100)), so_loads()]
        told += [so_back(), so_back(), so_feed(only(0, 100)), so_loads()]
        self.assertEqual([answer[0] for answer in play(told)[3::4]], [0, 1])

    def test_a_setting_that_was_taken_back_is_not_there(self):
        told = [so_start(), so_machine(1, same(1)), so_setting(0, same(2)), so_setting(0, same(3)), so_back(), so_turn(0, 2)]
        told += [so_setting(0, same(4)), so_turn(0, 2), so_split(0, 0, 0, 1000), so_sets()]
        self.assertEqual(play(told)[4:], [[2], [-22], [2], [0], [4], [3, 2, 0, 0, 0, 0]])

    def test_a_take_that_sets_what_is_set_is_a_change(self):
        told = [so_start(), so_take(), so_state(), so_take(), so_state(), so_back(), so_back(), so_back()]
        self.assertEqual(play(told)[1:], [[0], [0, 6, 0, 1, 0], [0], [0, 6, 0, 2, 0], [1], [0], [-2]])

    def test_changes_that_leave_all_alike_are_changes(self):
        told = [so_start(), so_machine(1, same(1)), so_turn(0, 0), so_belt(0, 0, 0), so_bay(0, 0, 0, 0, 1000000), so_state()]
        self.assertEqual(last(told), [1, 6, 0, 4, 0])


class Back(unittest.TestCase):
    def test_there_is_none(self):
        self.assertEqual(last([so_start(), so_back()]), [-2])
        told = [so_start(), so_feed(same(1)), so_back(), so_back(), so_state()]
        self.assertEqual(play(told)[2:], [[0], [-2], [0, 6, 0, 0, 1]])

    def test_how_many_can_still_be(self):
        told = [so_start()] + feeds(5) + [so_back()] * 6
        self.assertEqual(play(told)[6:], [[4], [3], [2], [1], [0], [-2]])

    def test_no_more_than_30(self):
        for count in (29, 30, 31, 32, 100):
            told = [so_start()] + feeds(count) + [so_state()] + [so_back()] * 31 + [so_hopper(), so_state()]
            answered = play(told)
            able = min(count, 30)
            self.assertEqual(answered[count + 1], [0, 6, 0, able, 0])
            self.assertEqual(answered[count + 2:-2], [[able - 1 - step] for step in range(able)] + [[-2]] * (31 - able))
            self.assertEqual(answered[-2:], [[count - able] + only(0, count - able), [0, 6, 0, 0, able]])

    def test_those_before_the_last_30_can_never_be_taken_back(self):
        told = [so_start()] + feeds(40) + [so_back()] * 10 + feeds(2) + [so_state()]
        self.assertEqual(last(told), [0, 6, 0, 22, 0])
        self.assertEqual(play(told + [so_back()] * 23 + [so_hopper()])[-2:], [[-2], [10] + only(0, 10)])

    def test_refused_calls_are_no_changes(self):
        for refused, number in REFUSED:
            told = play(RICH + [so_state(), refused, so_state()])
            self.assertEqual(told[-3], told[-1], refused)

    def test_questions_are_no_changes(self):
        told = READY + [so_state()] + telling() + [so_state()]
        self.assertEqual(play(told)[len(READY)], play(told)[-1])

    def test_so_back_is_no_change(self):
        told = [so_start()] + feeds(3) + [so_back(), so_back(), so_back(), so_back(), so_hopper()]
        self.assertEqual(play(told)[4:], [[2], [1], [0], [-2], [0] * 7])


class Again(unittest.TestCase):
    def test_there_is_none(self):
        self.assertEqual(last([so_start(), so_again()]), [-2])
        self.assertEqual(last([so_start()] + feeds(3) + [so_again()]), [-2])
        told = [so_start()] + feeds(1) + [so_back(), so_again(), so_again(), so_state()]
        self.assertEqual(play(told)[2:], [[0], [0], [-2], [0, 6, 0, 1, 0]])

    def test_how_many_there_still_are(self):
        told = [so_start()] + feeds(5) + [so_back()] * 4 + [so_again()] * 5
        self.assertEqual(play(told)[10:], [[3], [2], [1], [0], [-2]])

    def test_the_one_that_was_taken_back_last(self):
        told = [so_start()] + [so_feed(only(kind, kind + 1)) for kind in range(4)] + [so_back()] * 3
        told += [so_again(), so_hopper(), so_again(), so_hopper(), so_again(), so_hopper()]
        self.assertEqual(play(told)[8:], [
            [2], [3, 1, 2, 0, 0, 0, 0], [1], [6, 1, 2, 3, 0, 0, 0], [0], [10, 1, 2, 3, 4, 0, 0],
        ])

    def test_up_to_the_last_one_and_back_behind_it(self):
        told = [so_start()] + feeds(35) + [so_back()] * 30 + [so_again()] * 30
        told += [so_again(), so_state(), so_hopper()] + [so_back()] * 31 + [so_hopper()]
        answered = play(told)
        self.assertEqual(answered[36:96], [[29 - step] for step in range(30)] * 2)
        self.assertEqual(answered[96:99], [[-2], [0, 6, 0, 30, 0], [35] + only(0, 35)])
        self.assertEqual(answered[99:], [[29 - step] for step in range(30)] + [[-2], [5] + only(0, 5)])

    def test_forth_and_back_in_the_middle(self):
        told = [so_start()] + feeds(10) + [so_back()] * 5 + [so_again()] * 2 + [so_state(), so_hopper()]
        told += [so_back()] * 4 + [so_state(), so_again(), so_state(), so_hopper()]
        answered = play(told)
        self.assertEqual(answered[18:20], [[0, 6, 0, 7, 3], [7] + only(0, 7)])
        self.assertEqual(answered[-4:], [[0, 6, 0, 3, 7], [6], [0, 6, 0, 4, 6], [4] + only(0, 4)])

    def test_not_behind_another_change(self):
        for change in ELEVEN:
            told = READY + [so_feed(same(1)), so_feed(same(1)), so_back(), so_back(), change, so_state(), so_again()]
            answered = play(told)
            self.assertEqual(answered[-2][-2:], [len(READY), 0], change)
            self.assertEqual(answered[-1], [-2], change)
            self.assertEqual(play(told + telling())[len(told):], play(READY + [change] + telling())[len(READY) + 1:])

    def test_behind_a_change_like_the_one_that_was_taken_back(self):
        told = [so_start()] + feeds(2) + [so_back(), so_back()] + feeds(1) + [so_again(), so_hopper()]
        self.assertEqual(play(told)[-2:], [[-2], [1] + only(0, 1)])

    def test_behind_refused_calls(self):
        undone = RICH + [so_back()]
        behind = play(RICH + telling())[len(RICH):]
        for refused in (
            so_start(7), so_machine(1, same(0)), so_setting(5, same(0)), so_turn(0, 3), so_belt(0, 0, 11),
            so_bay(6, 0, 0, 0, 1), so_feed(same(0)), so_run(), so_bale(4), so_dump(0, 1001), so_return(4),
        ):
            told = undone + [refused, so_state(), so_again()]
            answered = play(told + telling())
            self.assertLess(answered[len(undone)][0], 0, refused)
            self.assertEqual(answered[len(undone) + 1][-1], 1, refused)
            self.assertEqual(answered[len(undone) + 2:], [[0]] + behind, refused)
        told = [so_start(), so_machine(9, same(0))] + feeds(10) + [so_bay(0, 0, 0, 1, 1), so_back(), so_take(), so_again()]
        self.assertEqual(play(told)[-2:], [[-33], [0]])

    def test_behind_a_refused_back(self):
        told = [so_start()] + feeds(1) + [so_back(), so_back(), so_again(), so_hopper()]
        self.assertEqual(play(told)[2:], [[0], [-2], [0], [1] + only(0, 1)])

    def test_behind_questions(self):
        told = READY + [so_back()] + telling() + [so_state(), so_again()]
        self.assertEqual(play(told)[-2:], [[2, 3, 1, len(READY) - 2, 1], [0]])

    def test_bales_and_machines_come_and_go(self):
        told = READY + [so_back(), so_back(), so_state(), so_again(), so_state()]
        self.assertEqual([answer[2] for answer in play(told)[-3::2]], [0, 1])
        told = [so_start()] + [so_machine(1, same(1))] * 5 + [so_machine(1, same(1)), so_back(), so_machine(1, same(1))]
        self.assertEqual(play(told)[-3:], [[-28], [4], [4]])


class Start(unittest.TestCase):
    def test_it_leaves_no_changes_either_way(self):
        for harm in (6, 2):
            told = READY + [so_back(), so_back(), so_start(harm), so_state(), so_again(), so_back(), so_state()]
            self.assertEqual(play(told)[-5:], [[0], [0, harm, 0, 0, 0], [-2], [-2], [0, harm, 0, 0, 0]])

    def test_it_is_no_change(self):
        self.assertEqual(play([so_start(), so_start(4), so_back(), so_state()])[1:], [[0], [-2], [0, 4, 0, 0, 0]])

    def test_refused_it_leaves_all_either_way(self):
        told = READY + [so_back(), so_back()]
        plain = play(told + [so_state()] + telling() + [so_again(), so_again(), so_hopper(), so_back(), so_worth()])
        tried = play(told + [so_start(7), so_state()] + telling() + [so_again(), so_again(), so_hopper(), so_back(), so_worth()])
        self.assertEqual(tried[len(told)], [-22])
        self.assertEqual(tried[len(told) + 1:], plain[len(told):])
        self.assertEqual(plain[len(told)], [2, 3, 0, len(READY) - 3, 2])

    def test_all_is_as_at_first(self):
        new = play([so_start(5)] + probe())
        self.assertEqual(play(READY + ELEVEN + [so_back(), so_start(5)] + probe())[len(READY + ELEVEN) + 1:], new)


class State(unittest.TestCase):
    def test_harm(self):
        for harm in range(7):
            self.assertEqual(play([so_start(harm), so_state()]), [[0], [0, harm, 0, 0, 0]])
        self.assertEqual(last([so_start(2), so_start(7), so_state()]), [0, 2, 0, 0, 0])
        self.assertEqual(last([so_start(2)] + feeds(3) + [so_back(), so_state()]), [0, 2, 0, 2, 1])

    def test_machines_and_bales(self):
        told = [so_start()] + [so_machine(1000, same(1))] * 4 + [so_machine(0, same(1))]
        told += [so_feed(same(1)), so_run(), so_bale(1), so_bale(0), so_state()]
        self.assertEqual(last(told), [4, 6, 1, 7, 0])
        told = [so_start()] + [so_feed(same(1)), so_run(), so_bale(0)] * 41 + [so_state()]
        self.assertEqual(last(told), [0, 6, 40, 30, 0])

    def test_it_changes_nothing(self):
        told = READY + [so_back()]
        self.assertEqual(play(told + [so_state(), so_state()] + probe())[len(told) + 2:], play(told + probe())[len(told):])
        self.assertEqual(play(told + [so_state(), so_again(), so_in(0)])[-2:], play(told + [so_again(), so_in(0)])[-2:])

    def test_a_return_can_be_taken_back(self):
        told = [so_start()] + feeds(1) + [so_run(), so_return(0), so_back(), so_in(0), so_hopper(), so_state()]
        self.assertEqual(play(told)[4:], [[2], [1] + only(0, 1), [0] * 7, [0, 6, 0, 2, 1]])


if __name__ == "__main__":
    unittest.main()
