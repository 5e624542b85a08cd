"""The calls that only ask: each gives back the numbers it answers, and changes nothing."""

from sortingbelts.flow import (
    again_till_good, best_settings, fits, machine_loads, put_hopper_through, put_through_alone,
)
from sortingbelts.mixes import KINDS, THOUSAND, only, parted
from sortingbelts.model import BAYS, MACHINES
from sortingbelts.refusals import EMPTY, MISSING, UNFIT, WRONG
from sortingbelts.worths import is_good, mixes_of, worth_of_all

MOST_ASKED_OF = 100000


def filled_up(numbers, length):
    """The numbers, with zeros in the places of machines that aren't there."""
    return list(numbers) + [0 for place in range(length - len(numbers))]


def for_each_machine(numbers):
    return filled_up(numbers, MACHINES)


def with_sum(mix):
    return [sum(mix)] + list(mix)


def so_would(state, i):
    if i >= BAYS:
        return [MISSING]
    return with_sum(put_through_alone(state.machines, state.hopper)[i])


def so_loads(state):
    places = put_hopper_through(state)
    return [1 if fits(state, places) else 0] + for_each_machine(machine_loads(places))


def so_pure(state, i):
    if i >= BAYS:
        return [MISSING]
    bay = state.bays[i]
    kg = sum(bay.mix)
    if kg == 0:
        return [EMPTY]
    return [THOUSAND * bay.mix[bay.kind] // kg, 1 if is_good(bay, bay.mix, state.harm) else 0]


def so_best(state):
    best = best_settings(state)
    if best is None:
        return [UNFIT]
    return [best[1]] + for_each_machine(best[0])


def so_often(state, i):
    if i >= BAYS:
        return [MISSING]
    good = again_till_good(state, i)
    if good is None:
        return [UNFIT]
    return [good[0], sum(good[1])]


def so_goes(state, kind, kg):
    if kind >= KINDS or kg > MOST_ASKED_OF:
        return [WRONG]
    places = put_through_alone(state.machines, only(kind, kg))
    return [len(state.machines)] + [mix[kind] for mix in places[:BAYS]]


def so_split(state, k, side, kind, kg):
    if k >= len(state.machines):
        return [MISSING]
    if side > 1 or kind >= KINDS or kg > MOST_ASKED_OF:
        return [WRONG]
    machine = state.machines[k]
    first = parted(only(kind, kg), machine.settings[machine.chosen])[kind]
    return [first if side == 0 else kg - first]


def so_hopper(state):
    return with_sum(state.hopper)


def so_in(state, i):
    if i >= BAYS:
        return [MISSING]
    return with_sum(state.bays[i].mix)


def so_sets(state):
    choices = 1
    for machine in state.machines:
        choices *= len(machine.settings)
    return [choices] + for_each_machine([machine.chosen for machine in state.machines])


def so_belts(state):
    belts = []
    for machine in state.machines:
        belts.extend(machine.belts)
    return [len(state.machines)] + filled_up(belts, 2 * MACHINES)


def brought_by_bales(state):
    return sum([bale[2] for bale in state.bales])


def so_bales(state):
    return [len(state.bales), sum([sum(bale[1]) for bale in state.bales]), brought_by_bales(state)]


def so_look(state, n):
    if n >= len(state.bales):
        return [MISSING]
    bale = state.bales[n]
    return [bale[0], sum(bale[1]), bale[2]]


def so_worth(state):
    return [worth_of_all(state.bays, mixes_of(state.bays), state.harm)]


def so_sums(state, kind):
    if kind >= KINDS:
        return [WRONG]
    in_bays = sum([bay.mix[kind] for bay in state.bays])
    baled = sum([bale[1][kind] for bale in state.bales])
    return [state.fed[kind], state.hopper[kind], in_bays, baled, state.dumped[kind]]


def so_money(state):
    return [brought_by_bales(state), state.cost]


QUESTIONS = (
    so_would,
    so_loads,
    so_pure,
    so_best,
    so_often,
    so_goes,
    so_split,
    so_hopper,
    so_in,
    so_sets,
    so_belts,
    so_bales,
    so_look,
    so_worth,
    so_sums,
    so_money,
)
