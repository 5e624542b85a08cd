"""Point 1, as far as no call tells it yet: what changes keep, to be taken back by."""

import unittest

from sortingbelts.changes import so_bay, so_feed, so_machine, so_setting, so_turn
from sortingbelts.history import History
from sortingbelts.questions import so_loads


class Kept(unittest.TestCase):
    def test_a_change_keeps_the_state_before_it_untouched(self):
        history = History()
        history.begin(6)
        history.change(so_machine, [100, [1] * 6])
        history.change(so_setting, [0, [2] * 6])
        history.change(so_turn, [0, 1])
        history.change(so_bay, [3, 5, 4, 3, 2])
        history.change(so_feed, [[1, 2, 3, 4, 5, 6]])
        self.assertEqual([len(state.machines) for state in history.past], [0, 1, 1, 1, 1])
        self.assertEqual([len(state.machines[0].settings) for state in history.past[1:]], [1, 2, 2, 2])
        self.assertEqual([state.machines[0].chosen for state in history.past[1:]], [0, 0, 1, 1])
        self.assertEqual([state.bays[3].kind for state in history.past], [0, 0, 0, 0, 5])
        self.assertEqual([sum(state.fed) for state in history.past + [history.state]], [0, 0, 0, 0, 0, 21])

    def test_neither_refusals_nor_questions_are_changes(self):
        history = History()
        history.begin(6)
        history.change(so_feed, [[0] * 6])
        history.change(so_turn, [0, 0])
        history.ask(so_loads, [])
        self.assertEqual(history.past, [])

    def test_the_last_30_are_kept(self):
        history = History()
        history.begin(6)
        for step in range(31):
            history.change(so_feed, [[1, 0, 0, 0, 0, 0]])
        self.assertEqual([sum(state.hopper) for state in history.past], list(range(1, 31)))

    def test_a_start_that_is_taken_keeps_none_and_a_refused_one_all(self):
        history = History()
        history.begin(6)
        history.change(so_feed, [[1, 0, 0, 0, 0, 0]])
        history.begin(7)
        self.assertEqual(len(history.past), 1)
        history.begin(5)
        self.assertEqual(history.past, [])


if __name__ == "__main__":
    unittest.main()
