"""The rules by which the agents of an active pair interact."""

from sharenet.arithmetic import result_of
from sharenet.errors import InvalidStep
from sharenet.net import PORTS

# The rules for two agents of the same level.
_SAME_LEVEL = {("lam", "app"): "beta", ("pair", "split"): "unpair", ("fan", "fan"): "annihilate"}


def rule_of(net, pair):
    """Return the name of the rule by which an active pair interacts, or None if there is none."""
    _refuse_inactive(net, pair)
    first, second = pair
    found = _rule_between(net.agent(first), net.agent(second))
    return found if found is not None else _rule_between(net.agent(second), net.agent(first))


def interact(net, pair):
    """Let an active pair interact and return the name of the rule."""
    rule = rule_of(net, pair)
    if rule is None:
        raise InvalidStep("there is no rule for the pair")
    first, second = pair
    if _rule_between(net.agent(first), net.agent(second)) is None:
        first, second = second, first
    if rule == "duplicate":
        _duplicate(net, first, second)
    elif rule == "operate":
        _operate(net, first, second)
    else:
        _join(net, (first, 1), (second, 1))
        _join(net, (first, 2), (second, 2))
    net.drop_pair(pair)
    return rule


def _refuse_inactive(net, pair):
    """Raise InvalidStep if a pair is not active."""
    if pair not in net.pairs():
        raise InvalidStep("the pair is not active")


def _rule_between(first, second):
    """Return the name of the rule for two agents, the first of which takes the first place in it, or None."""
    kind, level, _ = first
    other, height, _ = second
    if level == height and (kind, other) in _SAME_LEVEL:
        return _SAME_LEVEL[(kind, other)]
    if kind == "fan" and (other == "num" or level < height):
        return "duplicate"
    if kind == "num" and other in ("op", "op1"):
        return "operate"
    return None


def _join(net, one, other):
    """Connect the peers of two ports."""
    first = net.peer(one[0], one[1])
    second = net.peer(other[0], other[1])
    if first != other:
        net.connect(first, second)


def _replace(net, places):
    """Connect the peers of ports with new ports that take their places; places is a dict from old to new ports."""
    for old, new in places.items():
        peer = net.peer(old[0], old[1])
        # Both ends of the wire may be replaced.
        net.connect(new, places.get(peer, peer))


def _duplicate(net, fan, name):
    """Let a fan make two copies of an agent, and let the copies share the wires of the agent through new fans."""
    kind, level, data = net.agent(name)
    first = net.new_agent(kind, level, data)
    second = net.new_agent(kind, level, data)
    places = {(fan, 1): (first, 0), (fan, 2): (second, 0)}
    for port in range(1, PORTS[kind]):
        new_fan = net.new_agent("fan", net.agent(fan)[1], None)
        net.connect((new_fan, 1), (first, port))
        net.connect((new_fan, 2), (second, port))
        places[(name, port)] = (new_fan, 0)
    _replace(net, places)


def _operate(net, number, name):
    """Let an operation take its next operand."""
    operand = net.agent(number)[2]
    kind, level, data = net.agent(name)
    if kind == "op":
        agent = net.new_agent("op1", level, (data, operand))
        _replace(net, {(name, 1): (agent, 0), (name, 2): (agent, 1)})
    else:
        agent = net.new_agent("num", 0, result_of(data[0], data[1], operand))
        _replace(net, {(name, 1): (agent, 0)})
