"""The cells of a machine, which keep agents in a list of integers."""

from sharenet.net import PORTS, Net
from sharenet.pairlists import add_pair, take_pair

# The kinds of agents at the indexes that are their headers.
CELL_KINDS = ("free", "root", "lam", "app", "fan", "num", "op", "op1", "pair", "split")

_CELL = 5
_FIRST_PEER = 2


class Cells:
    """Cells that hold agents, and a list of the free ones.

    A port is a number, as the cells keep it. `active` is the ascending list of the active pairs, as going through all
    cells would find them; it is kept because going through them before each interaction would be slow. At first all
    cells hold nothing and are not in the free list either.
    """

    def __init__(self, capacity):
        self.memory = [0] * (_CELL * capacity)
        self.numbers = [0] * capacity
        self.signs = [""] * capacity
        self.active = []
        self.first_free = 0
        self.many_free = 0

    def agent(self, cell):
        """Return the kind, the level and the data of an agent."""
        kind = CELL_KINDS[self.memory[_CELL * cell]]
        number, sign = self.numbers[cell], self.signs[cell]
        data = {"num": number, "op": sign, "op1": (sign, number)}.get(kind)
        return (kind, self.memory[_CELL * cell + 1], data)

    def peer(self, port):
        """Return the peer of a port."""
        return self.memory[_place_of(port)]

    def connect(self, one, other):
        """Make two ports peers of each other."""
        self.memory[_place_of(one)] = other
        self.memory[_place_of(other)] = one
        # Port 0 of the root has the number 0.
        if one > 0 and other > 0 and one % 3 == 0 and other % 3 == 0:
            add_pair(self.active, (min(one, other) // 3, max(one, other) // 3))

    def fill_cell(self, cell, agent):
        """Put an agent without wires into a cell."""
        kind, level, data = agent
        start = _CELL * cell
        self.memory[start:start + _CELL] = [CELL_KINDS.index(kind), level, -1, -1, -1]
        if kind == "num":
            self.numbers[cell] = data
        elif kind == "op":
            self.signs[cell] = data
        elif kind == "op1":
            self.signs[cell], self.numbers[cell] = data

    def new_cell(self, agent):
        """Put an agent without wires into the first free cell and return the cell."""
        cell = self.first_free
        self.first_free = self.memory[_CELL * cell + _FIRST_PEER]
        self.many_free -= 1
        self.fill_cell(cell, agent)
        return cell

    def free_cell(self, cell):
        """Make a cell the first one of the free list."""
        start = _CELL * cell
        self.memory[start:start + _CELL] = [0, 0, self.first_free, 0, 0]
        self.numbers[cell] = 0
        self.signs[cell] = ""
        self.first_free = cell
        self.many_free += 1

    def free_pair(self, pair):
        """Remove the agents of an active pair, that of the greater cell first."""
        take_pair(self.active, pair)
        self.free_cell(pair[1])
        self.free_cell(pair[0])

    def free_list(self):
        """Return the list of the free cells, in the order of the free list."""
        found = []
        cell = self.first_free
        while len(found) < self.many_free:
            found.append(cell)
            cell = self.memory[_CELL * cell + _FIRST_PEER]
        return found

    def many_used(self):
        """Return the number of the cells that are not free."""
        return len(self.numbers) - self.many_free


def cells_with(net, order, capacity):
    """Return cells into which the agents of a net have been put in an order."""
    cells = Cells(capacity)
    for cell in reversed(range(capacity)):
        cells.free_cell(cell)
    numbers = {name: cells.new_cell(net.agent(name)) for name in order}
    for name, cell in numbers.items():
        for port in range(PORTS[net.agent(name)[0]]):
            other, other_port = net.peer(name, port)
            cells.connect(3 * cell + port, 3 * numbers[other] + other_port)
    return cells


def net_in(cells):
    """Return the net that cells hold, with the names of the canonical numbering."""
    order = [0]
    numbers = {0: 0}
    agents = []
    wires = []
    while len(agents) < len(order):
        name = len(agents)
        agent = cells.agent(order[name])
        agents.append(agent)
        for port in range(PORTS[agent[0]]):
            cell, other_port = divmod(cells.peer(3 * order[name] + port), 3)
            if cell not in numbers:
                numbers[cell] = len(order)
                order.append(cell)
            # Every wire is met at both of its ends.
            if (name, port) < (numbers[cell], other_port):
                wires.append(((name, port), (numbers[cell], other_port)))
    return Net(agents, wires)


def _place_of(port):
    """Return the index in the memory at which the peer of a port is kept."""
    return port // 3 * _CELL + _FIRST_PEER + port % 3
