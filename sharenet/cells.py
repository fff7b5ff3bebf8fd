"""A machine that keeps a net in cells and reduces it there."""

from sharenet.canonical import canonical_order
from sharenet.choosing import choice_at
from sharenet.errors import InvalidStep, TooLarge, TooLong
from sharenet.plans import plan_for
from sharenet.running import rule_counts
from sharenet.storage import cells_with, net_in


class CellMachine:
    """A machine that has loaded a net; `peak` is the greatest number of cells that it needed at once."""

    def __init__(self, net, *, capacity):
        if len(net) > capacity:
            raise TooLarge(f"{len(net)} agents do not go into {capacity} cells")
        self.cells = cells_with(net, canonical_order(net), capacity)
        self.peak = self.cells.many_used()

    def memory(self):
        """Return the list of the integers of all cells."""
        return list(self.cells.memory)

    def numbers(self):
        """Return the list of the numbers that belong to the cells."""
        return list(self.cells.numbers)

    def signs(self):
        """Return the list of the signs that belong to the cells."""
        return list(self.cells.signs)

    def free_cells(self):
        """Return the list of the free cells, in the order of the free list."""
        return self.cells.free_list()

    def pairs(self):
        """Return the ascending list of the active pairs."""
        return list(self.cells.active)

    def interact(self, pair):
        """Let an active pair interact and return the name of the rule."""
        cells = self.cells
        if pair not in cells.active:
            raise InvalidStep("the pair is not active")
        plan = plan_for(cells.agent(pair[0]), cells.agent(pair[1]))
        if plan is None:
            raise InvalidStep("there is no rule for the pair")
        if len(plan.agents) > cells.many_free + 2:
            raise TooLarge(f"{len(plan.agents)} new agents do not go into {cells.many_free + 2} cells")
        for one, other in plan.joins:
            _join(cells, _port_at(pair, one), _port_at(pair, other))
        _put_in(cells, pair, plan)
        self.peak = max(self.peak, cells.many_used())
        return plan.rule

    def run(self, *, choices=(), most=10000):
        """Let pairs interact until there are none, and return the numbers of interactions by the rules."""
        rules = []
        pairs = self.pairs()
        while pairs:
            if len(rules) >= most:
                raise TooLong(f"there are still pairs after {most} interactions")
            choice = choice_at(choices, len(rules))
            rules.append(self.interact(pairs[choice % len(pairs)]))
            pairs = self.pairs()
        return rule_counts(rules)

    def to_net(self):
        """Return the net that the machine holds, with the names of the canonical numbering."""
        return net_in(self.cells)


def _port_at(cells, port):
    """Return the number of a port of one of several cells."""
    place, number = port
    return 3 * cells[place] + number


def _join(cells, one, other):
    """Connect the peers of two ports."""
    first = cells.peer(one)
    if first != other:
        cells.connect(first, cells.peer(other))


def _put_in(cells, pair, plan):
    """Remove a pair and let new agents take the places of its ports."""
    # New agents may get the cells of the pair, so its wires are looked up before.
    peers = {_port_at(pair, old): cells.peer(_port_at(pair, old)) for old in plan.places}
    cells.free_pair(pair)
    names = [cells.new_cell(agent) for agent in plan.agents]
    for one, other in plan.wires:
        cells.connect(_port_at(names, one), _port_at(names, other))
    places = {_port_at(pair, old): _port_at(names, new) for old, new in plan.places.items()}
    for old, new in places.items():
        # Both ends of the wire may be replaced.
        cells.connect(new, places.get(peers[old], peers[old]))
