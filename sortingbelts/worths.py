"""Which mixes are good for a bay, and what they bring."""

from sortingbelts.mixes import KINDS, THOUSAND, added


def is_good(bay, mix, harm):
    kg = sum(mix)
    if kg == 0:
        return False
    if harm < KINDS and mix[harm] > 0:
        return False
    return THOUSAND * mix[bay.kind] >= bay.pure * kg


def brought(bay, mix):
    return sum(mix) * bay.price // THOUSAND


def worth_with(bays, came, harm):
    """What the bays are worth once each has, with its own mix, what came to it."""
    money = 0
    for bay, more in zip(bays, came):
        mix = added(bay.mix, more)
        if is_good(bay, mix, harm):
            money += brought(bay, mix)
    return money
