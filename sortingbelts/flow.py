"""Putting mixes through the machines.

What is where is one list of mixes, with the numbers that belts have: the bays
first, behind them the machines.
"""

from sortingbelts.mixes import NOTHING, added, lessened, parted
from sortingbelts.model import BAYS
from sortingbelts.worths import is_good, mixes_of, worth_of_all

MOST_TIMES = 20


def entered(had, machines, mix):
    places = list(had) + [NOTHING for machine in machines]
    first = BAYS if machines else 0
    places[first] = added(places[first], mix)
    return places


def part_at(places, k, belts, setting):
    mix = places[BAYS + k]
    side = parted(mix, setting)
    places[belts[0]] = added(places[belts[0]], side)
    places[belts[1]] = added(places[belts[1]], lessened(mix, side))


def put_through(had, machines, mix):
    """What is where then, by the settings as they are; had are the bays' mixes before."""
    places = entered(had, machines, mix)
    for k, machine in enumerate(machines):
        part_at(places, k, machine.belts, machine.settings[machine.chosen])
    return places


def put_through_alone(machines, mix):
    return put_through([NOTHING for i in range(BAYS)], machines, mix)


def put_hopper_through(state):
    return put_through(mixes_of(state.bays), state.machines, state.hopper)


def again_till_good(state, i):
    """How often bay i's mix must be put through by itself till it's good, and the mix then, or None."""
    bay = state.bays[i]
    mix = bay.mix
    for times in range(MOST_TIMES + 1):
        if is_good(bay, mix, state.harm):
            return (times, mix)
        mix = put_through_alone(state.machines, mix)[i]
    return None


def machine_loads(places):
    return [sum(mix) for mix in places[BAYS:]]


def machines_part(machines, places):
    return all([load <= machine.most for machine, load in zip(machines, machine_loads(places))])


def bays_hold(bays, places):
    return all([sum(mix) <= bay.most for bay, mix in zip(bays, places)])


def fits(state, places):
    return machines_part(state.machines, places) and bays_hold(state.bays, places)


def branched(ways, k, machine):
    further = []
    for way in ways:
        for number, setting in enumerate(machine.settings):
            places = list(way[1])
            part_at(places, k, machine.belts, setting)
            further.append((way[0] + (number,), places))
    return further


def ways_through(state):
    """Each choice of settings by which the machines can part all, first ones first, with what is where then.

    Choices grow machine by machine, so that those which begin alike share the
    work, and none goes on from a machine that too much comes to.
    """
    ways = [((), entered(mixes_of(state.bays), state.machines, state.hopper))]
    for k, machine in enumerate(state.machines):
        able = [way for way in ways if sum(way[1][BAYS + k]) <= machine.most]
        ways = branched(able, k, machine)
    return ways


def best_settings(state):
    """The best settings and what the bays would be worth, or None if nothing fits."""
    best = None
    for way in ways_through(state):
        if bays_hold(state.bays, way[1]):
            money = worth_of_all(state.bays, way[1], state.harm)
            # Only more than before is better: of equals the first stays.
            if best is None or money > best[1]:
                best = (way[0], money)
    return best
