"""The works as calls find it: the state now, those before it, and those that were taken back."""

from sortingbelts.model import State
from sortingbelts.refusals import MISSING, WRONG

MOST_TAKEN_BACK = 30
NO_HARM = 6


def called(call, state, told):
    """Calls have parameters of their own, and at most five of them."""
    if len(told) == 0:
        return call(state)
    if len(told) == 1:
        return call(state, told[0])
    if len(told) == 2:
        return call(state, told[0], told[1])
    if len(told) == 3:
        return call(state, told[0], told[1], told[2])
    if len(told) == 4:
        return call(state, told[0], told[1], told[2], told[3])
    return call(state, told[0], told[1], told[2], told[3], told[4])


class History:
    """Past are the states before changes that can be taken back, undone those behind changes that can be done again.

    Both have the one that's due next at their end.
    """

    def __init__(self):
        self.state = State(NO_HARM)
        self.past = []
        self.undone = []

    def begin(self, harm):
        if harm > NO_HARM:
            return [WRONG]
        self.state = State(harm)
        self.past = []
        self.undone = []
        return [0]

    def change(self, call, told):
        # The state now is never touched: a refused call leaves it, one that isn't makes it the past.
        changed = self.state.copied()
        answer = called(call, changed, told)
        if answer[0] >= 0:
            self.past = (self.past + [self.state])[-MOST_TAKEN_BACK:]
            self.state = changed
            self.undone = []
        return answer

    def ask(self, call, told):
        return called(call, self.state, told)

    def back(self):
        if len(self.past) == 0:
            return [MISSING]
        self.undone.append(self.state)
        self.state = self.past.pop()
        return [len(self.past)]

    def again(self):
        if len(self.undone) == 0:
            return [MISSING]
        self.past.append(self.state)
        self.state = self.undone.pop()
        return [len(self.undone)]

    def standing(self):
        state = self.state
        return [len(state.machines), state.harm, len(state.bales), len(self.past), len(self.undone)]
