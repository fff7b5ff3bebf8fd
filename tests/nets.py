"""A slow and plain second version of nets, by points 25 to 29 and 32, and nets that do not come from terms.

A plain net is a tuple of a dict from names to agents and a dict from ports to their peers.
"""

import random

from sharenet.errors import InvalidNet
from sharenet.net import Net

PORTS = {"root": 1, "lam": 3, "app": 3, "fan": 3, "pair": 3, "split": 3, "num": 1, "op": 3, "op1": 2}
READ = {("lam", 0): ("lam", [2]), ("app", 2): ("app", [0, 1]), ("op", 2): ("op", [0, 1]), ("pair", 0): ("pair", [1, 2]),
        ("split", 1): ("fst", [0]), ("split", 2): ("snd", [0]), ("num", 0): ("num", [])}


def plain(net):
    agents = {name: net.agent(name) for name in net.names()}
    return agents, {(name, port): net.peer(name, port) for name in agents for port in range(PORTS[agents[name][0]])}


def problems(net):
    """What is wrong with the wires and the active pairs of a net; agents may have been cut off."""
    agents, peers = plain(net)
    found = [port for port, peer in peers.items() if peer == port or peers.get(peer) != port]
    if net.pairs() != active(agents, peers):
        found.append(net.pairs())
    return found


def active(agents, peers):
    return sorted((a, b) for (a, port), (b, other) in peers.items()
                  if port == other == 0 and a < b and "root" not in (agents[a][0], agents[b][0]))


def root_of(agents):
    return [name for name, agent in agents.items() if agent[0] == "root"][0]


def text_of(agents, peers):
    """The canonical text of a plain net."""
    numbers = {root_of(agents): 0}
    done = []
    while len(done) < len(numbers):
        name = [name for name in numbers if name not in done][0]
        done.append(name)
        for port in range(PORTS[agents[name][0]]):
            numbers.setdefault(peers[name, port][0], len(numbers))
    parts = []
    for name in numbers:
        kind, level, data = agents[name]
        part = kind + (f"/{level}" if kind not in ("root", "num") else "")
        if data is not None:
            part += f"={data[0]}{data[1]}" if kind == "op1" else f"={data}"
        for port in range(PORTS[kind]):
            part += " {}.{}".format(numbers[peers[name, port][0]], peers[name, port][1])
        parts.append(part)
    return "; ".join(parts)


def rule_between(agents, a, b):
    """The rule for two agents and the agents in the order in which the rule names them, or None."""
    for first, second in ((a, b), (b, a)):
        (kind, level, _), (other, height, _) = agents[first], agents[second]
        if kind == "lam" and other == "app" and level == height:
            return "beta", first, second
        if kind == "pair" and other == "split" and level == height:
            return "unpair", first, second
        if kind == "fan" and other == "fan" and level == height:
            return "annihilate", first, second
        if kind == "fan" and (other == "num" or height > level):
            return "duplicate", first, second
        if kind == "num" and other in ("op", "op1"):
            return "operate", first, second
    return None


def interacted(agents, peers, pair, fresh):
    """The rule of a pair, and the plain net after it; new agents get the names from fresh on."""
    rule, first, second = rule_between(agents, *pair)
    agents, peers = dict(agents), dict(peers)
    if rule == "duplicate":
        places = duplicate(agents, peers, first, second, fresh)
    elif rule == "operate":
        places = operate(agents, first, second, fresh)
    else:
        join(peers, first, second)
        places = {}
    # A wire of a replaced port moves to the port in its place, at both of its ends if need be.
    for old, new in places.items():
        peer = places.get(peers[old], peers[old])
        peers[new], peers[peer] = peer, new
    for name in pair:
        del agents[name]
    return rule, agents, {port: peer for port, peer in peers.items() if port[0] in agents}


def join(peers, first, second):
    """Follow wires and joints in turn, from every port outside of the pair until another one is met."""
    outside = {port: peer for port, peer in peers.items() if port[0] not in (first, second)}
    for port, peer in outside.items():
        while peer[0] in (first, second):
            peer = peers[second if peer[0] == first else first, peer[1]]
        peers[port] = peer


def duplicate(agents, peers, fan, name, fresh):
    kind, level, data = agents[name]
    many = PORTS[kind] - 1
    agents[fresh] = agents[fresh + 1] = (kind, level, data)
    places = {(fan, 1): (fresh, 0), (fan, 2): (fresh + 1, 0)}
    for port in range(1, many + 1):
        new = fresh + 1 + port
        agents[new] = ("fan", agents[fan][1], None)
        for side in (1, 2):
            peers[new, side], peers[fresh + side - 1, port] = (fresh + side - 1, port), (new, side)
        places[name, port] = (new, 0)
    return places


def operate(agents, number, name, fresh):
    kind, level, data = agents[name]
    operand = agents[number][2]
    if kind == "op":
        agents[fresh] = ("op1", level, (data, operand))
        return {(name, 1): (fresh, 0), (name, 2): (fresh, 1)}
    sign, first = data
    agents[fresh] = ("num", 0, {"+": first + operand, "-": first - operand, "*": first * operand}[sign])
    return {(name, 1): (fresh, 0)}


class NotReadable(Exception):
    pass


class Endless(Exception):
    pass


class Walk:
    """The walk of point 32, which also tells which agent each node is read from."""

    def __init__(self, net, most=100000):
        self.agents, self.peers = plain(net)
        self.left = most
        self.counts = {}
        self.sources = {}
        self.core = self.read(self.peers[root_of(self.agents), 0], {}, [], ())

    def read(self, port, stacks, binders, path):
        """stacks is a dict from levels to lists; path is the way from the root of the core term."""
        name, number = port
        kind, level, data = self.agents[name]
        self.counts[port] = self.counts.get(port, 0) + 1
        self.left -= 1
        if self.left < 0:
            raise Endless()
        if kind == "fan":
            stack = stacks.get(level, [])
            if number > 0:
                return self.read(self.peers[name, 0], {**stacks, level: [*stack, number]}, binders, path)
            if not stack:
                raise NotReadable()
            return self.read(self.peers[name, stack[-1]], {**stacks, level: stack[:-1]}, binders, path)
        self.sources[path] = name
        here = (name, {at: stack for at, stack in stacks.items() if at < level and stack})
        if (kind, number) == ("lam", 1):
            if here not in binders:
                raise NotReadable()
            return ("var", binders.index(here))
        if (kind, number) == ("op1", 1):
            return ("op", data[0], ("num", data[1]), self.read(self.peers[name, 0], stacks, binders, (*path, 1)))
        if (kind, number) not in READ:
            raise NotReadable()
        form, ports = READ[kind, number]
        inner = [here, *binders] if kind == "lam" else binders
        parts = [self.read(self.peers[name, at], stacks, inner, (*path, place)) for place, at in enumerate(ports)]
        return (form, *([] if data is None else [data]), *parts)


class NetMaker:
    """Makes nets that do not come from terms, the same ones in every run."""

    def __init__(self, seed):
        self.random = random.Random(seed)

    def agent(self, most_level):
        kind = self.random.choice(["lam", "app", "fan", "fan", "fan", "pair", "split", "num", "op", "op1"])
        level = self.random.randrange(most_level + 1) if kind != "num" else 0
        number = self.random.randrange(-9, 10)
        sign = self.random.choice("+-*")
        return (kind, level, {"num": number, "op": sign, "op1": (sign, number)}.get(kind))

    def net(self, many, most_level=2):
        """A net with about so many agents; many of their principal ports are connected."""
        while True:
            agents = [self.agent(most_level) for _ in range(many)]
            agents.insert(self.random.randrange(many + 1), ("root", 0, None))
            ports = [(name, port) for name, agent in enumerate(agents) for port in range(PORTS[agent[0]])]
            if len(ports) % 2 == 1:
                continue
            self.random.shuffle(ports)
            if self.random.random() < 0.7:
                ports.sort(key=lambda port: (port[1] > 0, self.random.random() < 0.3))
            try:
                return Net(agents, list(zip(ports[::2], ports[1::2])))
            except InvalidNet:
                continue


def wired(text):
    """The net of a text such as `root a; lam/0 a b b`: agents, and for each of their ports the name of its wire."""
    agents, ends = [], {}
    for name, part in enumerate(text.split("; ")):
        head, *words = part.split(" ")
        agents.append(read_agent(head))
        for port, word in enumerate(words):
            ends.setdefault(word, []).append((name, port))
    return Net(agents, [tuple(ports) for ports in ends.values()])


def read_agent(head):
    """The agent with the first word of a part of a canonical text."""
    left, _, data = head.partition("=")
    kind, _, level = left.partition("/")
    value = {"num": lambda: int(data), "op": lambda: data, "op1": lambda: (data[0], int(data[1:]))}.get(kind)
    return (kind, int(level or 0), value() if value else None)
