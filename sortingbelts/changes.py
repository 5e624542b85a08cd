"""The calls that change the works.

Each is given a state of its own to change, and gives back the numbers it
answers; a refusal is one number below 0.
"""

from sortingbelts.flow import best_settings, fits, put_hopper_through
from sortingbelts.mixes import KINDS, NOTHING, THOUSAND, added
from sortingbelts.model import BAYS, MACHINES, MOST_HELD, Machine
from sortingbelts.refusals import EMPTY, FULL, MISSING, NO_ROOM, UNFIT, WRONG
from sortingbelts.worths import brought, is_good

MOST_SETTINGS = 3
MOST_FED_OF_A_KIND = 10000
MOST_IN_HOPPER = 100000
MOST_EVER_FED = 100000000
MOST_BALES = 40
HIGHEST_PRICE = 10000
HIGHEST_DUMP_PRICE = 1000


def most_is_right(most):
    return 1 <= most <= MOST_HELD


def hopper_takes(state, kg):
    return sum(state.hopper) + kg <= MOST_IN_HOPPER


def so_machine(state, most, p):
    if not most_is_right(most) or max(p) > THOUSAND:
        return [WRONG]
    if len(state.machines) >= MACHINES:
        return [FULL]
    state.machines.append(Machine(most, tuple(p)))
    return [len(state.machines) - 1]


def so_setting(state, k, p):
    if k >= len(state.machines):
        return [MISSING]
    if max(p) > THOUSAND:
        return [WRONG]
    machine = state.machines[k]
    if len(machine.settings) >= MOST_SETTINGS:
        return [FULL]
    machine.settings = machine.settings + (tuple(p),)
    return [len(machine.settings) - 1]


def so_turn(state, k, s):
    if k >= len(state.machines):
        return [MISSING]
    machine = state.machines[k]
    if s >= len(machine.settings):
        return [WRONG]
    before = machine.chosen
    machine.chosen = s
    return [before]


def leads_on(state, k, to):
    return to < BAYS or BAYS + k < to < BAYS + len(state.machines)


def so_belt(state, k, side, to):
    if k >= len(state.machines):
        return [MISSING]
    if side > 1 or not leads_on(state, k, to):
        return [WRONG]
    machine = state.machines[k]
    before = machine.belts
    machine.belts = (to, before[1]) if side == 0 else (before[0], to)
    return [before[side]]


def so_bay(state, i, kind, pure, price, most):
    if i >= BAYS:
        return [MISSING]
    if kind >= KINDS or pure > THOUSAND or price > HIGHEST_PRICE or not most_is_right(most):
        return [WRONG]
    bay = state.bays[i]
    if sum(bay.mix) > most:
        return [NO_ROOM]
    bay.kind = kind
    bay.pure = pure
    bay.price = price
    bay.most = most
    return [0]


def so_feed(state, m):
    kg = sum(m)
    if kg == 0 or max(m) > MOST_FED_OF_A_KIND:
        return [WRONG]
    if not hopper_takes(state, kg):
        return [NO_ROOM]
    if sum(state.fed) + kg > MOST_EVER_FED:
        return [FULL]
    state.hopper = added(state.hopper, m)
    state.fed = added(state.fed, m)
    return [sum(state.hopper)]


def so_run(state):
    kg = sum(state.hopper)
    if kg == 0:
        return [EMPTY]
    places = put_hopper_through(state)
    if not fits(state, places):
        return [NO_ROOM]
    for bay, mix in zip(state.bays, places):
        bay.mix = mix
    state.hopper = NOTHING
    return [kg]


def so_bale(state, i):
    if i >= BAYS:
        return [MISSING]
    bay = state.bays[i]
    kg = sum(bay.mix)
    if kg == 0:
        return [EMPTY]
    if not is_good(bay, bay.mix, state.harm):
        return [UNFIT]
    if len(state.bales) >= MOST_BALES:
        return [FULL]
    money = brought(bay, bay.mix)
    state.bales.append((i, bay.mix, money))
    bay.mix = NOTHING
    return [money, kg]


def so_dump(state, i, price):
    if i >= BAYS:
        return [MISSING]
    if price > HIGHEST_DUMP_PRICE:
        return [WRONG]
    bay = state.bays[i]
    kg = sum(bay.mix)
    if kg == 0:
        return [EMPTY]
    cost = (kg * price + THOUSAND - 1) // THOUSAND
    state.dumped = added(state.dumped, bay.mix)
    state.cost += cost
    bay.mix = NOTHING
    return [cost]


def so_return(state, i):
    if i >= BAYS:
        return [MISSING]
    bay = state.bays[i]
    kg = sum(bay.mix)
    if kg == 0:
        return [EMPTY]
    if not hopper_takes(state, kg):
        return [NO_ROOM]
    state.hopper = added(state.hopper, bay.mix)
    bay.mix = NOTHING
    return [sum(state.hopper)]


def so_take(state):
    best = best_settings(state)
    if best is None:
        return [UNFIT]
    for machine, number in zip(state.machines, best[0]):
        machine.chosen = number
    return [best[1]]


CHANGES = (
    so_machine,
    so_setting,
    so_turn,
    so_belt,
    so_bay,
    so_feed,
    so_run,
    so_bale,
    so_dump,
    so_return,
    so_take,
)
