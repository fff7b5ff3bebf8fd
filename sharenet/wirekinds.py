"""Kinds of wires."""

from sharenet.heads import nested_from
from sharenet.kinds import same_kind
from sharenet.net import PORTS
from sharenet.unknowns import Unknowns

# The forms of kinds that the agents with parts give to the wire of their port 0.
_FORMS = {"lam": "fun", "app": "fun", "pair": "pair", "split": "pair"}


def plain_kind(kind):
    """Return the plain kind of a kind."""
    heads = []
    waiting = [kind]
    while waiting:
        here = waiting.pop()
        if here[0] == "bang":
            waiting.append(here[1])
        else:
            heads.append((here[:1], len(here) - 1, None))
            waiting.extend(here[:0:-1])
    return nested_from(heads)


def net_fits(net, kind):
    """Return True if a net fits a plain kind, otherwise False."""
    # No wire has a kind with boxes.
    if not same_kind(kind, plain_kind(kind)):
        return False
    unknowns = Unknowns()
    wires = _wires_of(net, unknowns)
    fits = [_agent_fits(net, name, wires, unknowns) for name in net.names()]
    root = unknowns.for_kind(kind)
    return all(fits) and unknowns.made_equal(wires[(net.root, 0)], root) and unknowns.are_finite()


def _wires_of(net, unknowns):
    """Return the dict from the ports of a net to the unknown kinds of their wires."""
    wires = {}
    for name in net.names():
        for port in range(PORTS[net.agent(name)[0]]):
            if (name, port) not in wires:
                wires[(name, port)] = unknowns.new_kind(None)
                wires[net.peer(name, port)] = wires[(name, port)]
    return wires


def _agent_fits(net, name, wires, unknowns):
    """Let the kinds of the wires at an agent be as it asks for; return False if they cannot."""
    form = net.agent(name)[0]
    kinds = [wires[(name, port)] for port in range(PORTS[form])]
    if form == "root":
        return True
    if form == "fan":
        return unknowns.made_equal(kinds[0], kinds[1]) and unknowns.made_equal(kinds[0], kinds[2])
    if form in _FORMS:
        return unknowns.made_equal(kinds[0], unknowns.new_kind((_FORMS[form], kinds[1], kinds[2])))
    return all([unknowns.made_equal(kind, unknowns.new_kind(("int",))) for kind in kinds])
