"""The works once more, as plainly as can be, to hold the program's answers against.

Each kind goes its way by itself, every choice of settings is tried whole, and
what can be taken back is kept as deep copies.
"""

import copy
import itertools


class Refusal(Exception):
    pass


def need(right, number):
    if not right:
        raise Refusal(number)


class Ledger:
    def __init__(self):
        self.now = None
        self.before = []
        self.behind = []

    def answer(self, call):
        number, told = call[0], call[1:]
        try:
            return getattr(self, NAMES[number])(*self.arguments(number, told))
        except Refusal as refusal:
            return [refusal.args[0]]

    def arguments(self, number, told):
        if number in (1, 2):
            return [told[0], told[2:]]
        return [told[1:]] if number == 6 else told

    def tried(self, call):
        """A call's answer, kept as a change if it is one."""
        if not 1 <= call[0] <= 11:
            return self.answer(call)
        kept = copy.deepcopy(self.now)
        answer = self.answer(call)
        if answer[0] < 0:
            self.now = kept
        else:
            self.before = (self.before + [kept])[-30:]
            self.behind = []
        return answer

    def way(self, kind, kg, choice):
        """Of so much of a kind: what comes to the bays, and to the machines."""
        machines = self.now["machines"]
        at = [0] * 11
        at[6 if machines else 0] = kg
        for k, machine in enumerate(machines):
            first = at[6 + k] * machine["settings"][choice[k]][kind] // 1000
            at[machine["belts"][0]] += first
            at[machine["belts"][1]] += at[6 + k] - first
        return at

    def ways(self, mix, choice):
        """The same of a mix: for each place, so much of each kind."""
        of_kinds = [self.way(kind, mix[kind], choice) for kind in range(6)]
        return [list(place) for place in zip(*of_kinds)]

    def set_now(self):
        return [machine["set"] for machine in self.now["machines"]]

    def fit(self, at):
        machines, bays = self.now["machines"], self.now["bays"]
        return all(sum(at[6 + k]) <= machine["most"] for k, machine in enumerate(machines)) and all(
            sum(bay["mix"]) + sum(at[i]) <= bay["most"] for i, bay in enumerate(bays))

    def good(self, i, mix):
        bay, harm = self.now["bays"][i], self.now["harm"]
        return sum(mix) > 0 and 1000 * mix[bay["kind"]] >= bay["pure"] * sum(mix) and (harm == 6 or mix[harm] == 0)

    def bring(self, i, mix):
        return sum(mix) * self.now["bays"][i]["price"] // 1000

    def worth(self, mixes):
        return sum(self.bring(i, mix) for i, mix in enumerate(mixes) if self.good(i, mix))

    def best(self):
        found = []
        for choice in itertools.product(*[range(len(machine["settings"])) for machine in self.now["machines"]]):
            at = self.ways(self.now["hopper"], choice)
            if self.fit(at):
                mixes = [[a + b for a, b in zip(bay["mix"], at[i])] for i, bay in enumerate(self.now["bays"])]
                found.append((-self.worth(mixes), choice))
        need(found, -33)
        worth, choice = min(found)
        return -worth, list(choice)

    def machine(self, k):
        need(k < len(self.now["machines"]), -2)
        return self.now["machines"][k]

    def bay(self, i):
        need(i < 6, -2)
        return self.now["bays"][i]

    def emptied(self, bay):
        mix, bay["mix"] = bay["mix"], [0] * 6
        return mix

    def into_hopper(self, mix):
        self.now["hopper"] = [a + b for a, b in zip(self.now["hopper"], mix)]
        return [sum(self.now["hopper"])]

    def start(self, harm):
        need(harm <= 6, -22)
        bay = {"kind": 0, "pure": 0, "price": 0, "most": 1000000, "mix": [0] * 6}
        self.now = {"harm": harm, "hopper": [0] * 6, "machines": [], "bays": [dict(bay) for i in range(6)]}
        self.now.update({"bales": [], "fed": [0] * 6, "dumped": [], "cost": 0})
        self.before, self.behind = [], []
        return [0]

    def make(self, most, p):
        need(1 <= most <= 1000000 and all(share <= 1000 for share in p), -22)
        need(len(self.now["machines"]) < 5, -28)
        self.now["machines"].append({"most": most, "settings": [p], "set": 0, "belts": [0, 1]})
        return [len(self.now["machines"]) - 1]

    def setting(self, k, p):
        machine = self.machine(k)
        need(all(share <= 1000 for share in p), -22)
        need(len(machine["settings"]) < 3, -28)
        machine["settings"].append(p)
        return [len(machine["settings"]) - 1]

    def turn(self, k, s):
        machine = self.machine(k)
        need(s < len(machine["settings"]), -22)
        was, machine["set"] = machine["set"], s
        return [was]

    def belt(self, k, side, to):
        machine = self.machine(k)
        later = [6 + other for other in range(k + 1, len(self.now["machines"]))]
        need(side in (0, 1) and to in [0, 1, 2, 3, 4, 5] + later, -22)
        was, machine["belts"][side] = machine["belts"][side], to
        return [was]

    def set_bay(self, i, kind, pure, price, most):
        bay = self.bay(i)
        need(kind <= 5 and pure <= 1000 and price <= 10000 and 1 <= most <= 1000000, -22)
        need(sum(bay["mix"]) <= most, -62)
        bay.update({"kind": kind, "pure": pure, "price": price, "most": most})
        return [0]

    def feed(self, m):
        need(0 < sum(m) and all(kg <= 10000 for kg in m), -22)
        need(sum(self.now["hopper"]) + sum(m) <= 100000, -62)
        need(sum(self.now["fed"]) + sum(m) <= 100000000, -28)
        self.now["fed"] = [a + b for a, b in zip(self.now["fed"], m)]
        return self.into_hopper(m)

    def run(self):
        hopper = self.now["hopper"]
        need(sum(hopper) > 0, -6)
        at = self.ways(hopper, self.set_now())
        need(self.fit(at), -62)
        for i, bay in enumerate(self.now["bays"]):
            bay["mix"] = [a + b for a, b in zip(bay["mix"], at[i])]
        self.now["hopper"] = [0] * 6
        return [sum(hopper)]

    def bale(self, i):
        bay = self.bay(i)
        need(sum(bay["mix"]) > 0, -6)
        need(self.good(i, bay["mix"]), -33)
        need(len(self.now["bales"]) < 40, -28)
        money = self.bring(i, bay["mix"])
        self.now["bales"].append({"bay": i, "mix": self.emptied(bay), "money": money})
        return [money, sum(self.now["bales"][-1]["mix"])]

    def dump(self, i, price):
        bay = self.bay(i)
        need(price <= 1000, -22)
        need(sum(bay["mix"]) > 0, -6)
        cost = -(-sum(bay["mix"]) * price // 1000)
        self.now["cost"] += cost
        self.now["dumped"].append(self.emptied(bay))
        return [cost]

    def give_back(self, i):
        bay = self.bay(i)
        need(sum(bay["mix"]) > 0, -6)
        need(sum(self.now["hopper"]) + sum(bay["mix"]) <= 100000, -62)
        return self.into_hopper(self.emptied(bay))

    def take(self):
        worth, choice = self.best()
        for machine, s in zip(self.now["machines"], choice):
            machine["set"] = s
        return [worth]

    def would(self, i):
        self.bay(i)
        mix = self.ways(self.now["hopper"], self.set_now())[i]
        return [sum(mix)] + mix

    def loads(self):
        at = self.ways(self.now["hopper"], self.set_now())
        return [int(self.fit(at))] + [sum(mix) for mix in at[6:]]

    def pure(self, i):
        bay = self.bay(i)
        need(sum(bay["mix"]) > 0, -6)
        return [bay["mix"][bay["kind"]] * 1000 // sum(bay["mix"]), int(self.good(i, bay["mix"]))]

    def best_told(self):
        worth, choice = self.best()
        return [worth] + choice + [0] * (5 - len(choice))

    def often(self, i):
        mix = self.bay(i)["mix"]
        times = 0
        while not self.good(i, mix):
            times += 1
            need(times <= 20, -33)
            mix = self.ways(mix, self.set_now())[i]
        return [times, sum(mix)]

    def goes(self, kind, kg):
        need(kind <= 5 and kg <= 100000, -22)
        return [len(self.now["machines"])] + self.way(kind, kg, self.set_now())[:6]

    def split(self, k, side, kind, kg):
        machine = self.machine(k)
        need(side <= 1 and kind <= 5 and kg <= 100000, -22)
        first = kg * machine["settings"][machine["set"]][kind] // 1000
        return [[first, kg - first][side]]

    def hopper(self):
        return [sum(self.now["hopper"])] + self.now["hopper"]

    def inside(self, i):
        mix = self.bay(i)["mix"]
        return [sum(mix)] + mix

    def sets(self):
        every = itertools.product(*[machine["settings"] for machine in self.now["machines"]])
        return [len(list(every))] + (self.set_now() + [0] * 5)[:5]

    def belts(self):
        belts = [to for machine in self.now["machines"] for to in machine["belts"]]
        return [len(belts) // 2] + (belts + [0] * 10)[:10]

    def bales(self):
        bales = self.now["bales"]
        return [len(bales), sum(sum(bale["mix"]) for bale in bales), sum(bale["money"] for bale in bales)]

    def look(self, n):
        need(n < len(self.now["bales"]), -2)
        bale = self.now["bales"][n]
        return [bale["bay"], sum(bale["mix"]), bale["money"]]

    def worth_told(self):
        return [self.worth([bay["mix"] for bay in self.now["bays"]])]

    def sums(self, kind):
        need(kind <= 5, -22)
        now = self.now
        inside, baled = [sum(each["mix"][kind] for each in now[held]) for held in ("bays", "bales")]
        return [now["fed"][kind], now["hopper"][kind], inside, baled, sum(mix[kind] for mix in now["dumped"])]

    def money(self):
        return [sum(bale["money"] for bale in self.now["bales"]), self.now["cost"]]

    def back(self):
        need(self.before, -2)
        self.behind.append(copy.deepcopy(self.now))
        self.now = self.before.pop()
        return [len(self.before)]

    def again(self):
        need(self.behind, -2)
        self.before.append(copy.deepcopy(self.now))
        self.now = self.behind.pop()
        return [len(self.behind)]

    def state(self):
        now = self.now
        return [len(now["machines"]), now["harm"], len(now["bales"]), len(self.before), len(self.behind)]


NAMES = (
    "start make setting turn belt set_bay feed run bale dump give_back take would loads pure best_told often goes split "
    "hopper inside sets belts bales look worth_told sums money back again state"
).split()
