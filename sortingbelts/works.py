"""The works' one function: a list of calls in, a list of answers out."""

from sortingbelts.changes import CHANGES
from sortingbelts.history import History
from sortingbelts.questions import QUESTIONS

START = 0
FIRST_CHANGE = 1
FIRST_QUESTION = 12
BACK = 28
AGAIN = 29

# Of each call, by its number: how many whole numbers it has, how many rows behind them.
SHAPES = (
    (1, 0),  # so_start
    (1, 1),  # so_machine
    (1, 1),  # so_setting
    (2, 0),  # so_turn
    (3, 0),  # so_belt
    (5, 0),  # so_bay
    (0, 1),  # so_feed
    (0, 0),  # so_run
    (1, 0),  # so_bale
    (2, 0),  # so_dump
    (1, 0),  # so_return
    (0, 0),  # so_take
    (1, 0),  # so_would
    (0, 0),  # so_loads
    (1, 0),  # so_pure
    (0, 0),  # so_best
    (1, 0),  # so_often
    (2, 0),  # so_goes
    (4, 0),  # so_split
    (0, 0),  # so_hopper
    (1, 0),  # so_in
    (0, 0),  # so_sets
    (0, 0),  # so_belts
    (0, 0),  # so_bales
    (1, 0),  # so_look
    (0, 0),  # so_worth
    (1, 0),  # so_sums
    (0, 0),  # so_money
    (0, 0),  # so_back
    (0, 0),  # so_again
    (0, 0),  # so_state
)


class Tape:
    """The calls that were handed in, taken from it piece by piece."""

    def __init__(self, numbers):
        self.numbers = numbers
        self.at = 0

    def ended(self):
        return self.at >= len(self.numbers)

    def take(self, length):
        self.at += length
        return self.numbers[self.at - length:self.at]

    def number(self):
        return self.take(1)[0]

    def row(self):
        return self.take(self.number())


def told_behind(tape, call):
    shape = SHAPES[call]
    numbers = tape.take(shape[0])
    rows = [tape.row() for place in range(shape[1])]
    return numbers + rows


def answer_to(history, call, told):
    if call == START:
        return history.begin(told[0])
    if call < FIRST_QUESTION:
        return history.change(CHANGES[call - FIRST_CHANGE], told)
    if call < BACK:
        return history.ask(QUESTIONS[call - FIRST_QUESTION], told)
    if call == BACK:
        return history.back()
    if call == AGAIN:
        return history.again()
    return history.standing()


def answers(calls):
    tape = Tape(calls)
    history = History()
    answered = []
    while not tape.ended():
        call = tape.number()
        answer = answer_to(history, call, told_behind(tape, call))
        answered.append(len(answer))
        answered.extend(answer)
    return answered
