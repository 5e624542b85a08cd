"""Calls by their names, and their answers one by one: what the tests are written with."""

from sortingbelts.works import answers

HIGHEST = 4294967295


def so_start(harm=6):
    return [0, harm]


def so_machine(most, p):
    return [1, most, len(p)] + list(p)


def so_setting(k, p):
    return [2, k, len(p)] + list(p)


def so_turn(k, s):
    return [3, k, s]


def so_belt(k, side, to):
    return [4, k, side, to]


def so_bay(i, kind, pure, price, most):
    return [5, i, kind, pure, price, most]


def so_feed(m):
    return [6, len(m)] + list(m)


def so_run():
    return [7]


def so_bale(i):
    return [8, i]


def so_dump(i, price):
    return [9, i, price]


def so_return(i):
    return [10, i]


def so_take():
    return [11]


def so_would(i):
    return [12, i]


def so_loads():
    return [13]


def so_pure(i):
    return [14, i]


def so_best():
    return [15]


def so_often(i):
    return [16, i]


def so_goes(kind, kg):
    return [17, kind, kg]


def so_split(k, side, kind, kg):
    return [18, k, side, kind, kg]


def so_hopper():
    return [19]


def so_in(i):
    return [20, i]


def so_sets():
    return [21]


def so_belts():
    return [22]


def so_bales():
    return [23]


def so_look(n):
    return [24, n]


def so_worth():
    return [25]


def so_sums(kind):
    return [26, kind]


def so_money():
    return [27]


def so_back():
    return [28]


def so_again():
    return [29]


def so_state():
    return [30]


def only(kind, kg):
    """A mix of one kind, or thousandths of one kind."""
    return [kg if k == kind else 0 for k in range(6)]


def same(number):
    return [number] * 6


def split_up(numbers):
    """The answers, a list for each call."""
    found = []
    at = 0
    while at < len(numbers):
        found.append(numbers[at + 1:at + 1 + numbers[at]])
        at += 1 + numbers[at]
    return found


def play(calls):
    """What a list of calls answers, a list for each."""
    return split_up(answers(sum(calls, [])))


def last(calls):
    return play(calls)[-1]


def stocked(mix):
    """Calls that put a mix of at most 10,000 a kind into bay 0 of a works without machines."""
    return [so_feed(mix), so_run()]


def would_all():
    return [so_would(i) for i in range(6)]


def in_all():
    return [so_in(i) for i in range(6)]


def sums_all():
    return [so_sums(kind) for kind in range(6)]


def telling():
    """Calls that tell how a works stands and change nothing, but for so_state, whose numbers of changes differ."""
    told = [so_hopper(), so_sets(), so_belts(), so_bales(), so_worth(), so_money(), so_loads(), so_best()]
    told += in_all() + sums_all() + would_all()
    told += [so_look(n) for n in range(4)] + [so_pure(i) for i in range(6)] + [so_often(i) for i in range(6)]
    told += [so_goes(kind, 98765) for kind in range(6)]
    return told + [so_split(k, 0, kind, 1000) for k in range(5) for kind in range(6)]


def probe():
    """Calls whose answers, together, tell nearly everything of how a works stands.

    They change it: behind them, nothing else is asked.
    """
    told = telling()
    told += [so_turn(k, 0) for k in range(5)]
    told += [so_belt(k, side, 0) for k in range(5) for side in (0, 1)]
    told += [so_setting(k, same(1)) for k in range(5)] + [so_machine(1, same(1))]
    for s in (1, 2):
        told += [so_turn(k, s) for k in range(5)] + [so_split(k, 0, kind, 1000) for k in range(5) for kind in range(6)]
    told += [so_return(0), so_best()] + would_all() + [so_run()]
    told += [so_bale(i) for i in range(6)] + [so_dump(i, 7) for i in range(6)]
    told += [so_feed(same(1000))]
    for i in range(6):
        told += [so_belt(0, 0, i), so_belt(0, 1, i), so_loads()]
    return told + would_all() + [so_bales(), so_money()] + sums_all()
