"""The works' one function: a list of calls in, a list of answers out."""

from sortingbelts.changes import CHANGES
from sortingbelts.history import History
from sortingbelts.questions import QUESTIONS

START = 0
FIRST_CHANGE = 1
FIRST_QUESTION = 12

# Of each call, by its number: how many whole numbers it has, how many rows behind them.
SHAPES = (
    (1, 0),
    (1, 1),
    (1, 1),
    (2, 0),
    (3, 0),
    (5, 0),
    (0, 1),
    (0, 0),
    (1, 0),
    (2, 0),
    (1, 0),
    (0, 0),
    (1, 0),
    (0, 0),
    (1, 0),
    (0, 0),
)


class Tape:
    """The calls that were handed in, taken from it piece by piece."""

    def __init__(self, numbers):
        self.numbers = numbers
        self.at = 0

    def ended(self):
        return self.at >= len(self.numbers)

    def take(self, length):
        self.at += length
        return self.numbers[self.at - length:self.at]

    def number(self):
        return self.take(1)[0]

    def row(self):
        return self.take(self.number())


def told_behind(tape, call):
    shape = SHAPES[call]
    numbers = tape.take(shape[0])
    rows = [tape.row() for place in range(shape[1])]
    return numbers + rows


def answer_to(history, call, told):
    if call == START:
        return history.begin(told[0])
    if call < FIRST_QUESTION:
        return history.change(CHANGES[call - FIRST_CHANGE], told)
    return history.ask(QUESTIONS[call - FIRST_QUESTION], told)


def answers(calls):
    tape = Tape(calls)
    history = History()
    answered = []
    while not tape.ended():
        call = tape.number()
        answer = answer_to(history, call, told_behind(tape, call))
        answered.append(len(answer))
        answered.extend(answer)
    return answered
