"""Canonical numberings and canonical texts of nets."""

from sharenet.errors import InvalidNet
from sharenet.net import PORTS, Net
from sharenet.texts import decimal, integer_from


def canonical_order(net):
    """Return the list of the names of the agents in the order of the canonical numbering."""
    return net.reached()


def canonical_numbers(net):
    """Return the dict from the names of the agents to their canonical numbers."""
    return {name: number for number, name in enumerate(canonical_order(net))}


def canonical_text(net):
    """Return the canonical text of a net."""
    numbers = canonical_numbers(net)
    return "; ".join([_part_text(net, name, numbers) for name in numbers])


def same_net(first, second):
    """Return True if two nets are the same, otherwise False."""
    return canonical_text(first) == canonical_text(second)


def read_net(text):
    """Return the net with a canonical text, with the names of the canonical numbering."""
    agents = []
    wires = []
    for name, part in enumerate(text.split("; ")):
        words = part.split(" ")
        agents.append(_agent_from(words[0]))
        for port, word in enumerate(words[1:]):
            peer = _port_from(word)
            # Every wire is written at both of its ends.
            if (name, port) < peer:
                wires.append(((name, port), peer))
    net = Net(agents, wires)
    # Whatever was passed over so far shows in the text.
    if canonical_text(net) != text:
        raise InvalidNet("the text is not the canonical text of the net that it describes")
    return net


def _part_text(net, name, numbers):
    """Return the part of a canonical text for an agent."""
    kind, level, data = net.agent(name)
    head = kind if kind in ("root", "num") else f"{kind}/{decimal(level)}"
    if data is not None:
        head = f"{head}={_data_text(data)}"
    peers = [net.peer(name, port) for port in range(PORTS[kind])]
    return " ".join([head, *[f"{numbers[peer[0]]}.{peer[1]}" for peer in peers]])


def _data_text(data):
    """Return the text of a number, of a sign, or of a sign and a number."""
    if isinstance(data, int):
        return decimal(data)
    return data if isinstance(data, str) else data[0] + decimal(data[1])


def _agent_from(word):
    """Return the agent that the first word of a part describes, as far as it does."""
    left, _, data = word.partition("=")
    kind, _, level = left.partition("/")
    if kind == "num":
        return (kind, 0, integer_from(data))
    if kind == "root":
        return (kind, 0, None)
    if kind == "op":
        return (kind, integer_from(level), data)
    if kind == "op1":
        return (kind, integer_from(level), (data[:1], integer_from(data[1:])))
    return (kind, integer_from(level), None)


def _port_from(word):
    """Return the port of a word."""
    left, _, right = word.partition(".")
    name, port = integer_from(left), integer_from(right)
    if name is None or port is None:
        raise InvalidNet("a port is not written as two numbers with a dot between them")
    return (name, port)
