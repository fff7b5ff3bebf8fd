"""The net of a checked term."""

from sharenet.checking import check_term
from sharenet.net import Net
from sharenet.terms import bound_names
from sharenet.walking import walked

# The port that is the output of an agent, and the ports that are connected with the outputs of the parts.
_OUTPUT_PORT = {"num": 0, "lam": 0, "pair": 0, "op": 2, "app": 2}
_PART_PORTS = {"num": (), "lam": (2,), "pair": (1, 2), "op": (0, 1), "app": (0, 1)}


def net_of(term):
    """Return the net of a checked term."""
    check_term(term)
    counter = UseCounter()
    walked(term, {}, counter)
    builder = Builder(counter.uses)
    root = builder.new_agent("root", 0, None)
    builder.wires.append(((root, 0), walked(term, {}, builder)))
    return Net(builder.agents, builder.wires)


class UseCounter:
    """A visitor that counts the occurrences of names, which are numbered in the order in which they are bound."""

    def __init__(self):
        self.uses = []

    def bound(self, node, part, level):
        """Return the numbers of the names of a node."""
        numbers = []
        for _ in bound_names(node):
            numbers.append(len(self.uses))
            self.uses.append(0)
        return numbers

    def used(self, meaning, level):
        """Count an occurrence of a name."""
        self.uses[meaning] += 1

    def made(self, node, level, meanings, parts):
        """Count nothing."""


class Outputs:
    """The outputs of the occurrences of a name, from left to right."""

    def __init__(self, ports):
        self.ports = ports
        self.given = 0

    def following(self):
        """Return the output of the next occurrence."""
        self.given += 1
        return self.ports[self.given - 1]


class Builder:
    """A visitor that makes the agents and wires for a term; what it makes of a node is the output of the node.

    uses are the numbers of the occurrences of the names, in the order in which they are bound: how many fans there
    are must be known at the first occurrence.
    """

    def __init__(self, uses):
        self.uses = uses
        self.names_bound = 0
        self.agents = []
        self.wires = []

    def new_agent(self, kind, level, data):
        """Add an agent and return its name."""
        self.agents.append((kind, level, data))
        return len(self.agents) - 1

    def bound(self, node, part, level):
        """Return the outputs for the names of a node; part is the output of its first part."""
        first_name = self.names_bound
        self.names_bound += len(bound_names(node))
        if node[0] == "let":
            return [Outputs(self.shared(part, self.uses[first_name], level))]
        agent = self.new_agent(node[0], level, None)
        if node[0] == "lam":
            return [Outputs([(agent, 1)])]
        self.wires.append(((agent, 0), part))
        return [Outputs([(agent, 1)]), Outputs([(agent, 2)])]

    def shared(self, source, uses, level):
        """Return the list of the outputs by which an output is used several times."""
        ports = []
        last = source
        for _ in range(uses - 1):
            fan = self.new_agent("fan", level, None)
            self.wires.append(((fan, 0), last))
            ports.append((fan, 1))
            last = (fan, 2)
        return [*ports, last]

    def used(self, meaning, level):
        """Return the output of an occurrence of a name."""
        return meaning.following()

    def made(self, node, level, meanings, parts):
        """Return the output of a node."""
        form = node[0]
        if form in ("box", "let", "split"):
            return parts[-1]
        if form == "lam":
            agent = meanings[0].ports[0][0]
        elif form == "num":
            agent = self.new_agent(form, 0, node[1])
        else:
            agent = self.new_agent(form, level, node[1] if form == "op" else None)
        for port, part in zip(_PART_PORTS[form], parts):
            self.wires.append(((agent, port), part))
        return (agent, _OUTPUT_PORT[form])
