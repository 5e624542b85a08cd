"""How calls are handed in, and how answers are given back."""

import contextlib
import io
import unittest

from sortingbelts.works import answers
from tests.calls import (
    play, probe, same, so_bale, so_bay, so_best, so_feed, so_machine, so_pure, so_run, so_setting, so_start, so_take,
    so_would,
)
from tests.test_refused import REFUSED, RICH

ALL_SORTS = sum(RICH + [refused for refused, number in REFUSED] + probe(), [])


class ReadOnly(list):
    """A list that can't be changed, not for a while either."""

    def refuse(self, *told):
        raise AssertionError("what was handed in is changed")

    __setitem__ = __delitem__ = __iadd__ = __imul__ = refuse
    append = clear = extend = insert = pop = remove = reverse = sort = refuse


class Interface(unittest.TestCase):
    def test_calls_and_answers_as_numbers(self):
        calls = [0, 1, 1, 1000, 6, 500, 0, 1000, 0, 0, 0, 6, 6, 9, 0, 5, 0, 0, 1, 13, 12, 0, 7, 8, 1, 8, 0, 14, 9, 15]
        self.assertEqual(answers(calls), [
            1, 0, 1, 0, 1, 15, 6, 1, 15, 0, 0, 0, 0, 7, 9, 4, 0, 5, 0, 0, 0, 1, 15, 2, 0, 6, 2, 0, 9, 1, -2,
            6, 0, 0, 0, 0, 0, 0,
        ])

    def test_one_call(self):
        self.assertEqual(answers([0, 6]), [1, 0])
        self.assertEqual(answers([0, 7]), [1, -22])

    def test_how_many_numbers_each_call_answers(self):
        told = [so_start(), so_machine(1000, same(0)), so_setting(0, same(1)), [3, 0, 1], [4, 0, 1, 0]]
        told += [so_bay(0, 0, 0, 0, 1000), so_feed(same(1)), so_take(), so_run(), so_pure(0), so_bale(0)]
        told += [so_feed(same(1)), so_run(), [10, 0], so_run(), [9, 0, 1], so_would(5), [13], so_best()]
        counts = [1, 1, 1, 1, 1, 1, 1, 1, 1, 2, 2, 1, 1, 1, 1, 1, 7, 6, 6]
        answered = play(told)
        self.assertEqual([len(answer) for answer in answered], counts)
        self.assertTrue(all(answer[0] >= 0 for answer in answered))

    def test_a_refusal_is_its_number_alone(self):
        for refused, number in REFUSED:
            self.assertEqual(answers(sum(RICH, []) + refused)[-2:], [1, number])

    def test_a_list_of_whole_numbers_comes_back(self):
        answered = answers(list(ALL_SORTS))
        self.assertIs(type(answered), list)
        self.assertEqual({type(number) for number in answered}, {int})

    def test_what_is_handed_in_is_not_changed(self):
        calls = list(ALL_SORTS)
        answers(calls)
        self.assertEqual(calls, ALL_SORTS)
        self.assertEqual(answers(ReadOnly(ALL_SORTS)), answers(ALL_SORTS))

    def test_nothing_is_kept_from_one_time_to_the_next(self):
        first = answers(list(ALL_SORTS))
        small = answers(sum([so_start(6)] + probe(), []))
        answers([0, 7])
        self.assertEqual(answers(list(ALL_SORTS)), first)
        self.assertEqual(answers(sum([so_start(6)] + probe(), [])), small)
        answers([0, 3])
        self.assertEqual(play([so_start(6), so_feed(same(1)), so_run(), so_bale(0)])[-1], [0, 6])

    def test_what_came_back_before_stays_as_it_was(self):
        first = answers(list(ALL_SORTS))
        kept = list(first)
        answers(list(ALL_SORTS))
        self.assertEqual(first, kept)
        first.clear()
        self.assertEqual(answers(list(ALL_SORTS)), kept)

    def test_it_prints_nothing(self):
        printed = io.StringIO()
        with contextlib.redirect_stdout(printed), contextlib.redirect_stderr(printed):
            answers(list(ALL_SORTS))
        self.assertEqual(printed.getvalue(), "")

    def test_a_thousand_calls(self):
        told = [so_start()] + [so_machine(1000000, same(100 * k)) for k in range(5)]
        told += [so_setting(k, same(300 * s)) for k in range(5) for s in (1, 2)]
        told += [so_bay(i, i, 10, 1000, 1000000) for i in range(6)] + [so_feed(same(10000))]
        told += [so_best(), so_take()] * ((1000 - len(told)) // 2)
        answered = play(told)
        self.assertEqual(len(answered), len(told))
        self.assertEqual(answered[-2][0], answered[-1][0])


if __name__ == "__main__":
    unittest.main()
