"""Putting mixes through the machines.

What came where is one list of mixes, with the numbers that belts have: the bays
first, behind them the machines.
"""

from sortingbelts.mixes import NOTHING, added, lessened, parted
from sortingbelts.model import BAYS
from sortingbelts.worths import worth_with


def entered(machines, mix):
    came = [NOTHING for place in range(BAYS + len(machines))]
    came[BAYS if machines else 0] = mix
    return came


def part_at(came, k, belts, setting):
    mix = came[BAYS + k]
    side = parted(mix, setting)
    came[belts[0]] = added(came[belts[0]], side)
    came[belts[1]] = added(came[belts[1]], lessened(mix, side))


def put_through(machines, mix):
    """What comes where, by the settings as they are."""
    came = entered(machines, mix)
    for k, machine in enumerate(machines):
        part_at(came, k, machine.belts, machine.settings[machine.chosen])
    return came


def machine_loads(came):
    return [sum(mix) for mix in came[BAYS:]]


def machines_part(machines, came):
    return all([load <= machine.most for machine, load in zip(machines, machine_loads(came))])


def bays_hold(bays, came):
    return all([sum(bay.mix) + sum(more) <= bay.most for bay, more in zip(bays, came)])


def fits(state, came):
    return machines_part(state.machines, came) and bays_hold(state.bays, came)


def branched(ways, k, machine):
    further = []
    for way in ways:
        for number, setting in enumerate(machine.settings):
            came = list(way[1])
            part_at(came, k, machine.belts, setting)
            further.append((way[0] + (number,), came))
    return further


def ways_through(machines, mix):
    """Each choice of settings by which the machines can part all, first ones first, with what comes where.

    Choices grow machine by machine, so that those which begin alike share the
    work, and none goes on from a machine that too much comes to.
    """
    ways = [((), entered(machines, mix))]
    for k, machine in enumerate(machines):
        able = [way for way in ways if sum(way[1][BAYS + k]) <= machine.most]
        ways = branched(able, k, machine)
    return ways


def best_settings(state):
    """The best settings and what the bays would be worth, or None if nothing fits."""
    best = None
    for way in ways_through(state.machines, state.hopper):
        if bays_hold(state.bays, way[1]):
            money = worth_with(state.bays, way[1], state.harm)
            # Only more than before is better: of equals the first stays.
            if best is None or money > best[1]:
                best = (way[0], money)
    return best
