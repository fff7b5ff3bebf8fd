"""A slow and plain second version of machines with cells, by points 37 to 40, 57 and 58."""

import re

from sharenet.canonical import canonical_order
from tests.nets import PORTS, active, interacted, plain, rule_between

HEADERS = {"root": 1, "lam": 2, "app": 3, "fan": 4, "num": 5, "op": 6, "op1": 7, "pair": 8, "split": 9}
RULES = ("beta", "unpair", "annihilate", "duplicate", "operate")


class SlowMachine:
    """Agents and wires of a plain net, the cells of the agents, and the list of the free cells."""

    def __init__(self, net, capacity):
        self.agents, self.peers = plain(net)
        order = canonical_order(net)
        self.capacity = capacity
        self.place = {name: cell for cell, name in enumerate(order)}
        self.free = list(range(len(order), capacity))
        self.fresh = max(net.names()) + 1
        self.peak = len(order)

    def agents_in_cells(self):
        return {cell: self.agents[name] for name, cell in self.place.items()}

    def memory(self):
        found = [[0] * 5 for _ in range(self.capacity)]
        for at, cell in enumerate(self.free):
            found[cell][2] = [*self.free, 0][at + 1]
        for name, cell in self.place.items():
            kind, level, _ = self.agents[name]
            found[cell] = [HEADERS[kind], level, -1, -1, -1]
            for port in range(PORTS[kind]):
                other, other_port = self.peers[name, port]
                found[cell][2 + port] = 3 * self.place[other] + other_port
        return [integer for cell in found for integer in cell]

    def numbers(self):
        found = [0] * self.capacity
        for cell, (kind, _, data) in self.agents_in_cells().items():
            if kind in ("num", "op1"):
                found[cell] = data[1] if kind == "op1" else data
        return found

    def signs(self):
        found = [""] * self.capacity
        for cell, (kind, _, data) in self.agents_in_cells().items():
            if kind in ("op", "op1"):
                found[cell] = data[0]
        return found

    def pairs(self):
        return sorted(tuple(sorted((self.place[a], self.place[b]))) for a, b in active(self.agents, self.peers)
                      if a in self.place)

    def rule(self, pair):
        found = rule_between(self.agents, *self.names(pair))
        return None if found is None else found[0]

    def needed(self, pair):
        """How many cells the copies and the new fans of a duplication need."""
        _, _, copied = rule_between(self.agents, *self.names(pair))
        return 2 + PORTS[self.agents[copied][0]] - 1

    def names(self, pair):
        return [name for cell in pair for name, place in self.place.items() if place == cell]

    def interact(self, pair):
        names = self.names(pair)
        rule, self.agents, self.peers = interacted(self.agents, self.peers, names, self.fresh)
        for cell in sorted(pair, reverse=True):
            self.free.insert(0, cell)
        for name in names:
            del self.place[name]
        for name in sorted(name for name in self.agents if name >= self.fresh):
            self.place[name] = self.free.pop(0)
            self.fresh = name + 1
        self.peak = max(self.peak, len(self.place))
        return rule

    def dump(self):
        lines = [f"cells {self.capacity}"]
        names = {cell: name for name, cell in self.place.items()}
        for cell in range(self.capacity):
            if cell in self.free:
                lines.append(f"free {[*self.free, 0][self.free.index(cell) + 1]}")
                continue
            kind, level, data = self.agents[names[cell]]
            words = [kind]
            if kind not in ("root", "num"):
                words.append(str(level))
            if kind == "op1":
                words.extend([data[0], str(data[1])])
            elif data is not None:
                words.append(str(data))
            for port in range(PORTS[kind]):
                other, other_port = self.peers[names[cell], port]
                words.append(f"{self.place[other]}.{other_port}")
            lines.append(" ".join(words))
        return "".join(line + "\n" for line in [*lines, f"first {[*self.free, 0][0]}"])


def state(machine):
    """Everything that can be seen of a machine."""
    return (machine.memory(), machine.numbers(), machine.signs(), getattr(machine, "free_cells", lambda: machine.free)(),
            machine.pairs(), machine.peak)


NUMBER = "(?:0|[1-9][0-9]*)"
INTEGER = "(?:0|-?[1-9][0-9]*)"
PEER = f"({NUMBER})\\.([012])"
LINES = [
    ("free", f"free ({NUMBER})"), ("root", f"root {PEER}"), ("num", f"num {INTEGER} {PEER}"),
    ("three", f"(?:lam|app|fan|pair|split) {NUMBER} {PEER} {PEER} {PEER}"),
    ("op", f"op {NUMBER} [-+*] {PEER} {PEER} {PEER}"), ("op1", f"op1 {NUMBER} [-+*] {INTEGER} {PEER} {PEER}"),
]


def is_dump(text):
    """If a text is a dump by point 58."""
    lines = text.split("\n")
    if len(lines) < 3 or lines[-1] != "" or lines[0] != f"cells {len(lines) - 3}":
        return False
    nexts, peers, roots = {}, {}, []
    for cell, line in enumerate(lines[1:-2]):
        found = [(form, re.fullmatch(pattern, line)) for form, pattern in LINES if re.fullmatch(pattern, line)]
        if not found:
            return False
        form, match = found[0]
        numbers = [int(word) for word in match.groups()]
        if form == "free":
            nexts[cell] = numbers[0]
            continue
        if form == "root":
            roots.append(cell)
        for port, peer in enumerate(zip(numbers[::2], numbers[1::2])):
            peers[cell, port] = peer
    first = re.fullmatch(f"first ({NUMBER})", lines[-2])
    if not first or roots != [0]:
        return False
    return free_list_right(nexts, int(first[1])) and wires_right(peers)


def free_list_right(nexts, first):
    met = []
    while first != 0:
        if first not in nexts or first in met:
            return False
        met.append(first)
        first = nexts[first]
    return sorted(met) == sorted(nexts)


def wires_right(peers):
    if any(peer == port or peers.get(peer) != port for port, peer in peers.items()):
        return False
    reached = [0]
    for cell in reached:
        reached.extend({other for (here, _), (other, _) in peers.items() if here == cell} - set(reached))
    return sorted(reached) == sorted({cell for cell, _ in peers})
