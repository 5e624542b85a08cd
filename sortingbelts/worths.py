"""Which mixes are good for a bay, and what they bring."""

from sortingbelts.mixes import KINDS, THOUSAND


def is_good(bay, mix, harm):
    kg = sum(mix)
    if kg == 0:
        return False
    if harm < KINDS and mix[harm] > 0:
        return False
    return THOUSAND * mix[bay.kind] >= bay.pure * kg


def brought(bay, mix):
    return sum(mix) * bay.price // THOUSAND


def mixes_of(bays):
    return [bay.mix for bay in bays]


def worth_of_all(bays, mixes, harm):
    """What the bays are worth, were these their mixes."""
    money = 0
    for bay, mix in zip(bays, mixes):
        if is_good(bay, mix, harm):
            money += brought(bay, mix)
    return money
