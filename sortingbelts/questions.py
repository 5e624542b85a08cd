"""The calls that only ask: each gives back the numbers it answers, and changes nothing."""

from sortingbelts.flow import best_settings, fits, machine_loads, put_through
from sortingbelts.mixes import THOUSAND
from sortingbelts.model import BAYS, MACHINES
from sortingbelts.refusals import EMPTY, MISSING, UNFIT
from sortingbelts.worths import is_good


def for_each_machine(numbers):
    return list(numbers) + [0 for k in range(MACHINES - len(numbers))]


def so_would(state, i):
    if i >= BAYS:
        return [MISSING]
    mix = put_through(state.machines, state.hopper)[i]
    return [sum(mix)] + list(mix)


def so_loads(state):
    came = put_through(state.machines, state.hopper)
    return [1 if fits(state, came) else 0] + for_each_machine(machine_loads(came))


def so_pure(state, i):
    if i >= BAYS:
        return [MISSING]
    bay = state.bays[i]
    kg = sum(bay.mix)
    if kg == 0:
        return [EMPTY]
    return [THOUSAND * bay.mix[bay.kind] // kg, 1 if is_good(bay, bay.mix, state.harm) else 0]


def so_best(state):
    best = best_settings(state)
    if best is None:
        return [UNFIT]
    return [best[1]] + for_each_machine(best[0])


QUESTIONS = (
    so_would,
    so_loads,
    so_pure,
    so_best,
)
