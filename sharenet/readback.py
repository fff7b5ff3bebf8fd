"""Reading a net back as a core term."""

from sharenet.errors import Unreadable
from sharenet.heads import nested_from
from sharenet.stacks import Stacks

_MOST_ENTERED = 100000

# The form of the node that is read from an agent that is entered at a port, and the ports where its parts are read.
_READ = {
    ("lam", 0): ("lam", (2,)),
    ("app", 2): ("app", (0, 1)),
    ("op", 2): ("op", (0, 1)),
    ("op1", 1): ("op", (0,)),
    ("pair", 0): ("pair", (1, 2)),
    ("split", 1): ("fst", (0,)),
    ("split", 2): ("snd", (0,)),
    ("num", 0): ("num", ()),
}


def read_back(net):
    """Return the core term that is read back from a net."""
    return nested_from(_read(net).heads)


def read_count(net, name):
    """Return how often the walk of read_back enters an agent."""
    entered = _read(net).entered
    return sum([many for port, many in entered.items() if port[0] == name])


def shared_agents(net):
    """Return the ascending list of the agents other than fans that are read several times."""
    counts = {}
    for port, many in _read(net).entered.items():
        name, number = port
        kind = net.agent(name)[0]
        if kind != "fan" and (kind, number) != ("lam", 1):
            counts[name] = counts.get(name, 0) + many
    return sorted([name for name, many in counts.items() if many > 1])


def _read(net):
    """Return the finished walk through a net."""
    walk = NetWalk(net)
    while walk.waiting:
        binder, port, stacks = walk.waiting.pop()
        if binder is None:
            walk.enter_agent(port, stacks)
        else:
            walk.drop_binder(binder)
    return walk


class NetWalk:
    """A walk through a net: what is still to be entered, and what has been read.

    The stacks of a state are a tuple with one stack for each level that fans have. A binder is a tuple of a lam and of
    the stacks of the levels less than its own. The list of binders belongs to what is read at present: `lams` is its
    length, and `places` has the ascending list of the places in it of each binder.
    """

    def __init__(self, net):
        self.net = net
        agents = [net.agent(name) for name in net.names()]
        self.levels = sorted(set([agent[1] for agent in agents if agent[0] == "fan"]))
        self.stacks = Stacks()
        self.waiting = [(None, net.peer(net.root, 0), (0,) * len(self.levels))]
        self.heads = []
        self.entered = {}
        self.steps = 0
        self.lams = 0
        self.places = {}

    def enter_agent(self, port, stacks):
        """Enter an agent at a port."""
        self.entered[port] = self.entered.get(port, 0) + 1
        self.steps += 1
        if self.steps > _MOST_ENTERED:
            raise Unreadable(f"the walk enters more than {_MOST_ENTERED} agents")
        name, number = port
        kind = self.net.agent(name)[0]
        if kind == "fan":
            self.pass_fan(port, stacks)
        elif (kind, number) == ("lam", 1):
            self.read_variable(name, stacks)
        elif (kind, number) in _READ:
            self.read_node(port, stacks)
        else:
            raise Unreadable(f"the walk enters port {number} of an agent of the kind {kind}")

    def pass_fan(self, port, stacks):
        """Go on behind a fan, with another stack of its level."""
        name, number = port
        place = self.levels.index(self.net.agent(name)[1])
        stack = stacks[place]
        if number > 0:
            stack = self.stacks.pushed(stack, number)
            number = 0
        elif stack == 0:
            raise Unreadable("the walk enters a fan at port 0 with an empty stack")
        else:
            stack, number = self.stacks.popped(stack)
        behind = (*stacks[:place], stack, *stacks[place + 1:])
        self.waiting.append((None, self.net.peer(name, number), behind))

    def read_node(self, port, stacks):
        """Read a node, whose parts are read next."""
        name, number = port
        kind, _, data = self.net.agent(name)
        form, part_ports = _READ[(kind, number)]
        if kind == "op1":
            self.heads.append(((form, data[0]), 2, None))
            self.heads.append((("num", data[1]), 0, None))
        else:
            head = (form,) if data is None else (form, data)
            self.heads.append((head, len(part_ports), None))
        if kind == "lam":
            self.add_binder(self.binder(name, stacks))
        for part_port in reversed(part_ports):
            self.waiting.append((None, self.net.peer(name, part_port), stacks))

    def read_variable(self, name, stacks):
        """Read a variable that a lam binds."""
        places = self.places.get(self.binder(name, stacks), [])
        if not places:
            raise Unreadable("a variable has no binder")
        self.heads.append((("var", self.lams - places[-1] - 1), 0, None))

    def binder(self, name, stacks):
        """Return the binder of a lam with certain stacks."""
        level = self.net.agent(name)[1]
        less = len([fan_level for fan_level in self.levels if fan_level < level])
        return (name, stacks[:less])

    def add_binder(self, binder):
        """Make a binder the newest one until everything that is put on the waiting list from now on is read."""
        self.places.setdefault(binder, []).append(self.lams)
        self.lams += 1
        self.waiting.append((binder, None, None))

    def drop_binder(self, binder):
        """Take the newest binder off the list."""
        self.places[binder].pop()
        self.lams -= 1
