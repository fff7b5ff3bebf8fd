"""Suspending machines with cells as texts, restoring them, and moving them to other machines."""

from sharenet.cells import CellMachine
from sharenet.errors import InvalidNet, InvalidText
from sharenet.net import PORTS, Net
from sharenet.storage import CELL_KINDS, Cells
from sharenet.texts import decimal, integer_from

# The words of a line behind the kind of the agent and before the peers.
_WORDS = {
    "root": (),
    "num": ("number",),
    "op": ("level", "sign"),
    "op1": ("level", "sign", "number"),
    "lam": ("level",),
    "app": ("level",),
    "fan": ("level",),
    "pair": ("level",),
    "split": ("level",),
}

# The lines for the capacity, for a root and another agent, and for the free list, and what stands behind the last one.
_FEWEST_ROWS = 5


def dump(machine):
    """Return the dump of a machine."""
    memory, numbers, signs = machine.memory(), machine.numbers(), machine.signs()
    lines = [f"cells {len(numbers)}"]
    for cell, number in enumerate(numbers):
        lines.append(_line(memory[5 * cell:5 * cell + 5], number, signs[cell]))
    free = machine.free_cells()
    lines.append(f"first {free[0] if free else 0}")
    return "\n".join([*lines, ""])


def restored(text):
    """Return the machine with a dump."""
    rows = [line.split(" ") for line in text.split("\n")]
    if len(rows) < _FEWEST_ROWS:
        raise InvalidText("there are too few lines")
    dumped = DumpedCells(rows[1:-2])
    order = dumped.free_order(_number(rows[-2][-1]))
    machine = CellMachine(dumped.whole_net(), capacity=len(rows) - 3)
    machine.cells = dumped.filled_cells(order)
    machine.peak = machine.cells.many_used()
    # Whatever was passed over so far shows in the text.
    if dump(machine) != text:
        raise InvalidText("the text is not written as a dump is")
    return machine


def moved(machine, *, capacity):
    """Return a new machine that has loaded the net of a machine."""
    return CellMachine(machine.to_net(), capacity=capacity)


def _line(integers, number, sign):
    """Return the line for a cell with its five integers."""
    kind = CELL_KINDS[integers[0]]
    if kind == "free":
        return f"free {integers[2]}"
    values = {"level": decimal(integers[1]), "number": decimal(number), "sign": sign}
    peers = [divmod(peer, 3) for peer in integers[2:2 + PORTS[kind]]]
    words = [kind, *[values[word] for word in _WORDS[kind]]]
    return " ".join([*words, *[f"{cell}.{port}" for cell, port in peers]])


class DumpedCells:
    """What the lines of a dump say about the cells, with the words of each line as a row.

    `agents` is a dict from the cells that are not free to their agents, `ends` a dict from their ports to the peers,
    and `followers` a dict from the free cells to the next ones of the free list.
    """

    def __init__(self, rows):
        self.agents = {}
        self.ends = {}
        self.followers = {}
        for cell, words in enumerate(rows):
            if words[0] == "free":
                self.followers[cell] = _number(words[-1])
            else:
                self.read_agent(cell, words)

    def read_agent(self, cell, words):
        """Read the words of a line for an agent."""
        kind = words[0]
        if kind not in _WORDS or len(words) != 1 + len(_WORDS[kind]) + PORTS[kind]:
            raise InvalidText("there is a line that is not one for a cell")
        values = dict(zip(_WORDS[kind], words[1:]))
        level = _number(values.get("level", "0"))
        number = _number(values.get("number", "0"))
        sign = values.get("sign", "")
        data = {"num": number, "op": sign, "op1": (sign, number)}.get(kind)
        self.agents[cell] = (kind, level, data)
        for port, word in enumerate(words[-PORTS[kind]:]):
            other, _, other_port = word.partition(".")
            self.ends[(cell, port)] = (_number(other), _number(other_port))

    def free_order(self, first):
        """Return the list of the free cells in the order of the free list, which begins with a cell or with 0."""
        order = []
        cell = first
        while cell in self.followers and len(order) < len(self.followers):
            order.append(cell)
            cell = self.followers[cell]
        if cell != 0 or len(order) < len(self.followers):
            raise InvalidText("the free list does not contain every free cell once")
        return order

    def whole_net(self):
        """Return the net that the cells hold; its root must be in cell 0."""
        names = {cell: name for name, cell in enumerate(self.agents)}
        wires = []
        for one, other in self.ends.items():
            if self.ends.get(other) != one:
                raise InvalidText("there are peers that are not mutual")
            if one < other:
                wires.append(((names[one[0]], one[1]), (names[other[0]], other[1])))
        try:
            net = Net(list(self.agents.values()), wires)
        except InvalidNet:
            raise InvalidText("the cells do not hold a net")
        if self.agents.get(0) != ("root", 0, None):
            raise InvalidText("the root is not in cell 0")
        return net

    def filled_cells(self, order):
        """Return the cells, with free cells in an order."""
        cells = Cells(len(self.agents) + len(order))
        for cell in reversed(order):
            cells.free_cell(cell)
        for cell, agent in self.agents.items():
            cells.fill_cell(cell, agent)
        for one, other in self.ends.items():
            cells.connect(3 * one[0] + one[1], 3 * other[0] + other[1])
        return cells


def _number(word):
    """Return the number of a word."""
    number = integer_from(word)
    if number is None:
        raise InvalidText("there is a word that is not a number")
    return number
