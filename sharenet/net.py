"""Nets of agents that are connected by wires."""

from sharenet.errors import InvalidNet
from sharenet.pairlists import add_pair, take_pair

PORTS = {"root": 1, "lam": 3, "app": 3, "fan": 3, "pair": 3, "split": 3, "num": 1, "op": 3, "op1": 2}

_SIGNS = ("+", "-", "*")


class Net:
    """Agents with names, and the wires between their ports.

    `agents` and `ends` are dicts from the names to the agents and to the lists of the peers of their ports, and
    `active` is the ascending list of the active pairs.
    """

    def __init__(self, agents, wires):
        _refuse_agents(agents)
        self.agents = dict(enumerate(agents))
        self.ends = _ends_of(agents, wires)
        self.root = [agent[0] for agent in agents].index("root")
        if len(self.reached()) < len(agents):
            raise InvalidNet("the root does not reach all agents")
        self.active = []
        for name, peers in self.ends.items():
            self.note_pair((name, 0), peers[0])
        self.next_name = len(agents)

    def names(self):
        """Return the ascending list of the names of the agents."""
        return sorted(self.agents)

    def agent(self, name):
        """Return the kind, the level and the data of an agent."""
        return self.agents[name]

    def peer(self, name, port):
        """Return the peer of a port."""
        return self.ends[name][port]

    def pairs(self):
        """Return the ascending list of the active pairs."""
        return list(self.active)

    def copied(self):
        """Return a new net with the same names, agents and wires."""
        net = Net([("root", 0, None), ("num", 0, 0)], [((0, 0), (1, 0))])
        net.agents = dict(self.agents)
        net.ends = {name: list(peers) for name, peers in self.ends.items()}
        net.root = self.root
        net.active = list(self.active)
        net.next_name = self.next_name
        return net

    def __len__(self):
        return len(self.agents)

    def reached(self):
        """Return the list of the names of the agents that the root reaches, the nearest ones first."""
        names = [self.root]
        known = {self.root: True}
        at = 0
        while at < len(names):
            for other, _ in self.ends[names[at]]:
                if other not in known:
                    known[other] = True
                    names.append(other)
            at += 1
        return names

    def new_agent(self, kind, level, data):
        """Add an agent without wires and return its name."""
        name = self.next_name
        self.next_name += 1
        self.agents[name] = (kind, level, data)
        self.ends[name] = [None] * PORTS[kind]
        return name

    def connect(self, one, other):
        """Make two ports peers of each other."""
        self.ends[one[0]][one[1]] = other
        self.ends[other[0]][other[1]] = one
        self.note_pair(one, other)

    def note_pair(self, one, other):
        """Keep two agents as an active pair if the wire between two of their ports makes them one."""
        if one[1] > 0 or other[1] > 0 or self.root in (one[0], other[0]):
            return
        add_pair(self.active, (min(one[0], other[0]), max(one[0], other[0])))

    def drop_pair(self, pair):
        """Remove the agents of an active pair; other wires must have taken the places of theirs."""
        take_pair(self.active, pair)
        for name in pair:
            del self.agents[name]
            del self.ends[name]

    def around_pair(self, pair):
        """Return what bring_back needs to take the interaction of a pair back: its agents, their peers and a name."""
        kept = {name: (self.agents[name], list(self.ends[name])) for name in pair}
        return (pair, kept, self.next_name)

    def bring_back(self, before):
        """Take the last interaction back; around_pair returned `before` ahead of it."""
        pair, kept, next_name = before
        for name in range(next_name, self.next_name):
            del self.agents[name]
            del self.ends[name]
        self.next_name = next_name
        for name in pair:
            self.agents[name], self.ends[name] = kept[name]
        for name in pair:
            for port, peer in enumerate(list(self.ends[name])):
                self.connect((name, port), peer)
        self.active = [other for other in self.active if self.is_active(other)]

    def is_active(self, pair):
        """Return True if the agents of a pair are still there and their principal ports are still connected."""
        first, second = pair
        return first in self.ends and self.ends[first][0] == (second, 0)


def _refuse_agents(agents):
    """Raise InvalidNet if a list is not a list of agents with one root."""
    for agent in agents:
        if not _is_agent(agent):
            raise InvalidNet("an agent is not of the form that its kind asks for")
    roots = [agent for agent in agents if agent[0] == "root"]
    if len(roots) != 1:
        raise InvalidNet(f"there are {len(roots)} roots")


def _is_agent(agent):
    """Return True if a value is an agent."""
    if not isinstance(agent, tuple) or len(agent) != 3:
        return False
    kind, level, data = agent
    if not isinstance(kind, str) or kind not in PORTS or not _is_integer(level):
        return False
    if level < 0 or (level > 0 and kind in ("root", "num")):
        return False
    if kind == "num":
        return _is_integer(data)
    if kind == "op":
        return data in _SIGNS
    if kind == "op1":
        return isinstance(data, tuple) and len(data) == 2 and data[0] in _SIGNS and _is_integer(data[1])
    return data is None


def _is_integer(value):
    """Return True if a value is an integer, to which True and False do not belong."""
    return isinstance(value, int) and not isinstance(value, bool)


def _ends_of(agents, wires):
    """Return a dict from the names to the lists of the peers of their ports."""
    ends = {name: [None] * PORTS[agent[0]] for name, agent in enumerate(agents)}
    for wire in wires:
        if not isinstance(wire, tuple) or len(wire) != 2:
            raise InvalidNet("a wire does not have two ends")
        one, other = wire
        if one == other or not _is_open(ends, one) or not _is_open(ends, other):
            raise InvalidNet("a wire does not end at two ports without another wire")
        ends[one[0]][one[1]] = other
        ends[other[0]][other[1]] = one
    if None in [peer for peers in ends.values() for peer in peers]:
        raise InvalidNet("a port is the end of no wire")
    return ends


def _is_open(ends, port):
    """Return True if a value is a port that has no peer yet."""
    if not isinstance(port, tuple) or len(port) != 2 or not _is_integer(port[0]) or not _is_integer(port[1]):
        return False
    name, number = port
    return name in ends and 0 <= number < len(ends[name]) and ends[name][number] is None
