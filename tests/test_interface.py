"""How calls are handed in, and how answers are given back."""

import contextlib
import io
import time
import unittest

from sortingbelts.works import answers
from tests.calls import (
    play, probe, same, so_again, so_back, so_bale, so_bay, so_belt, so_best, so_feed, so_machine, so_often, so_pure,
    so_run, so_setting, so_start, so_state, so_take, so_would,
)
from tests.test_refused import REFUSED, RICH

ALL_CALLS = RICH + [refused for refused, number in REFUSED] + [so_back(), so_back(), so_state(), so_again()] + probe()
ALL_SORTS = sum(ALL_CALLS, [])


class ReadOnly(list):
    """A list that can't be changed, not for a while either."""

    def refuse(self, *told):
        raise AssertionError("what was handed in is changed")

    __setitem__ = __delitem__ = __iadd__ = __imul__ = refuse
    append = clear = extend = insert = pop = remove = reverse = sort = refuse


class Interface(unittest.TestCase):
    def test_calls_and_answers_as_numbers(self):
        calls = [0, 1, 1, 1000, 6, 500, 0, 1000, 0, 0, 0, 6, 6, 9, 0, 5, 0, 0, 1, 13, 12, 0, 7, 8, 1, 8, 0, 14, 9, 15]
        self.assertEqual(answers(calls), [
            1, 0, 1, 0, 1, 15, 6, 1, 15, 0, 0, 0, 0, 7, 9, 4, 0, 5, 0, 0, 0, 1, 15, 2, 0, 6, 2, 0, 9, 1, -2,
            6, 0, 0, 0, 0, 0, 0,
        ])

    def test_the_later_calls_and_answers_as_numbers(self):
        calls = [0, 1, 1, 1000, 6, 500, 0, 1000, 0, 0, 0, 5, 0, 2, 500, 3000, 90, 6, 6, 9, 0, 5, 0, 0, 1, 7]
        for call, answer in (
            ([16, 0], [2, 0, 9]), ([16, 1], [2, 0, 6]), ([16, 6], [1, -2]), ([17, 0, 7], [7, 1, 3, 4, 0, 0, 0, 0]),
            ([17, 6, 7], [1, -22]), ([18, 0, 1, 0, 7], [1, 4]), ([18, 1, 0, 0, 7], [1, -2]), ([19], [7, 0, 0, 0, 0, 0, 0, 0]),
            ([20, 0], [7, 9, 4, 0, 5, 0, 0, 0]), ([21], [6, 1, 0, 0, 0, 0, 0]),
            ([22], [11, 1, 0, 1, 0, 0, 0, 0, 0, 0, 0, 0]), ([23], [3, 0, 0, 0]), ([24, 0], [1, -2]), ([25], [1, 27]),
            ([26, 2], [5, 5, 0, 5, 0, 0]), ([27], [2, 0, 0]), ([28], [1, 3]), ([29], [1, -2]), ([30], [5, 1, 1, 0, 4, 0]),
            ([8, 0, 23], [2, 27, 9, 3, 1, 9, 27]), ([8, 0, 24, 0], [2, 27, 9, 3, 0, 9, 27]),
            ([9, 1, 1, 27], [1, 1, 2, 0, 1]), ([28, 29, 29, 30], [1, 3, 1, 0, 1, -2, 5, 1, 1, 0, 4, 0]),
        ):
            found = answers(calls + call)
            self.assertEqual(found, [1, 0, 1, 0, 1, 0, 1, 15, 1, 15] + answer, call)

    def test_one_call(self):
        self.assertEqual(answers([0, 6]), [1, 0])
        self.assertEqual(answers([0, 7]), [1, -22])

    def test_how_many_numbers_each_call_answers(self):
        told = [so_start(), so_machine(1000, same(0)), so_setting(0, same(1)), [3, 0, 1], [4, 0, 1, 0]]
        told += [so_bay(0, 0, 0, 0, 1000), so_feed(same(1)), so_take(), so_run(), so_pure(0), so_bale(0)]
        told += [so_feed(same(1)), so_run(), [10, 0], so_run(), [9, 0, 1], so_would(5), [13], so_best()]
        counts = [1, 1, 1, 1, 1, 1, 1, 1, 1, 2, 2, 1, 1, 1, 1, 1, 7, 6, 6]
        answered = play(told)
        self.assertEqual([len(answer) for answer in answered], counts)
        self.assertTrue(all(answer[0] >= 0 for answer in answered))

    def test_how_many_numbers_each_later_call_answers(self):
        told = [so_start(), so_feed(same(1)), so_run(), so_bale(0), so_machine(1000, same(0)), so_feed(same(1)), so_run()]
        told += [so_often(1), [17, 0, 0], [18, 0, 0, 0, 0], [19], [20, 0], [21], [22], [23], [24, 0], [25], [26, 0], [27]]
        told += [[28], [29], [30]]
        answered = play(told)[7:]
        self.assertEqual([len(answer) for answer in answered], [2, 7, 1, 7, 7, 6, 11, 3, 3, 1, 5, 2, 1, 1, 5])
        self.assertTrue(all(answer[0] >= 0 for answer in answered))

    def test_every_call_is_among_all_sorts(self):
        self.assertEqual({call[0] for call in ALL_CALLS}, set(range(31)))

    def test_a_refusal_is_its_number_alone(self):
        for refused, number in REFUSED:
            self.assertEqual(answers(sum(RICH, []) + refused)[-2:], [1, number])

    def test_a_list_of_whole_numbers_comes_back(self):
        answered = answers(list(ALL_SORTS))
        self.assertIs(type(answered), list)
        self.assertEqual({type(number) for number in answered}, {int})

    def test_what_is_handed_in_is_not_changed(self):
        calls = list(ALL_SORTS)
        answers(calls)
        self.assertEqual(calls, ALL_SORTS)
        self.assertEqual(answers(ReadOnly(ALL_SORTS)), answers(ALL_SORTS))

    def test_nothing_is_kept_from_one_time_to_the_next(self):
        first = answers(list(ALL_SORTS))
        small = answers(sum([so_start(6)] + probe(), []))
        answers([0, 7])
        self.assertEqual(answers(list(ALL_SORTS)), first)
        self.assertEqual(answers(sum([so_start(6)] + probe(), [])), small)
        answers([0, 3])
        self.assertEqual(play([so_start(6), so_feed(same(1)), so_run(), so_bale(0)])[-1], [0, 6])

    def test_what_came_back_before_stays_as_it_was(self):
        first = answers(list(ALL_SORTS))
        kept = list(first)
        answers(list(ALL_SORTS))
        self.assertEqual(first, kept)
        first.clear()
        self.assertEqual(answers(list(ALL_SORTS)), kept)

    def test_it_prints_nothing(self):
        printed = io.StringIO()
        with contextlib.redirect_stdout(printed), contextlib.redirect_stderr(printed):
            answers(list(ALL_SORTS))
        self.assertEqual(printed.getvalue(), "")

    def full_works(self):
        """Five machines of three settings each, all of which something comes to."""
        told = [so_start()] + [so_machine(1000000, same(100 * k + 50)) for k in range(5)]
        told += [so_setting(k, same(300 * s)) for k in range(5) for s in (1, 2)]
        told += [so_belt(k, 0, k + 7) for k in range(4)] + [so_belt(k, 1, min(k + 8, 10)) for k in range(4)]
        told += [so_belt(4, 0, 2), so_belt(4, 1, 5)]
        return told + [so_bay(i, i, 10, 1000, 1000000) for i in range(6)] + [so_feed(same(10000))]

    def check_in_good_time(self, told):
        """Far more time than it takes, and far less than a way that grows with what was called before would."""
        self.assertEqual(len(told), 1000)
        began = time.monotonic()
        answered = play(told)
        self.assertLess(time.monotonic() - began, 60)
        self.assertEqual(len(answered), 1000)
        return answered

    def test_a_thousand_calls(self):
        told = self.full_works() + [so_run(), so_feed(same(10000)), so_bay(5, 5, 1000, 1000, 1000000)]
        built = len(told)
        told += [so_best(), so_take(), so_often(5)] * ((1000 - built) // 3)
        answered = self.check_in_good_time(told + [so_state()] * (1000 - len(told)))
        self.assertTrue(all(answer[0] >= 0 for answer in answered[:built]))
        self.assertEqual([answer[0] for answer in answered[built::3]][:321], [answered[built][0]] * 321)
        self.assertEqual(answered[built + 1::3][:321], [answered[built][:1]] * 321)
        self.assertEqual(answered[built + 2::3][:321], [[-33]] * 321)

    def test_a_thousand_calls_back_and_forth(self):
        told = self.full_works()
        told += ([so_take(), so_feed(same(1)), so_run(), so_feed(same(1))] * 10 + [so_back()] * 31 + [so_again()] * 31) * 9
        answered = self.check_in_good_time(told + [so_state()] * (1000 - len(told)))
        self.assertEqual(answered[-1], [5, 6, 0, 30, 0])


if __name__ == "__main__":
    unittest.main()
