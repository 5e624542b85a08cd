"""The works as calls find it: the state now, and those that changes can be taken back to."""

from sortingbelts.model import State
from sortingbelts.refusals import WRONG

MOST_TAKEN_BACK = 30
NO_HARM = 6


def called(call, state, told):
    """Calls have parameters of their own, and at most five of them."""
    if len(told) == 0:
        return call(state)
    if len(told) == 1:
        return call(state, told[0])
    if len(told) == 2:
        return call(state, told[0], told[1])
    if len(told) == 3:
        return call(state, told[0], told[1], told[2])
    return call(state, told[0], told[1], told[2], told[3], told[4])


class History:
    def __init__(self):
        self.state = State(NO_HARM)
        self.past = []

    def begin(self, harm):
        if harm > NO_HARM:
            return [WRONG]
        self.state = State(harm)
        self.past = []
        return [0]

    def change(self, call, told):
        # The state now is never touched: a refused call leaves it, one that isn't makes it the past.
        changed = self.state.copied()
        answer = called(call, changed, told)
        if answer[0] >= 0:
            self.past = (self.past + [self.state])[-MOST_TAKEN_BACK:]
            self.state = changed
        return answer

    def ask(self, call, told):
        return called(call, self.state, told)
