"""The rules by which the agents of an active pair interact."""

from sharenet.errors import InvalidStep
from sharenet.plans import plan_for


def rule_of(net, pair):
    """Return the name of the rule by which an active pair interacts, or None if there is none."""
    plan = _plan_of(net, pair)
    return None if plan is None else plan.rule


def interact(net, pair):
    """Let an active pair interact and return the name of the rule."""
    rule, _ = interact_traced(net, pair)
    return rule


def interact_traced(net, pair):
    """Let an active pair interact, and return the name of the rule and the list of the wires that it made.

    They come in the order in which they were made, each as a tuple of its two ports and of the list of the ports of
    removed agents whose wires go on in it. A port of a wire may itself belong to the pair, where a later wire takes it.
    """
    plan = _plan_of(net, pair)
    if plan is None:
        raise InvalidStep("there is no rule for the pair")
    made = []
    for one, other in plan.joins:
        made.extend(_join(net, (pair[one[0]], one[1]), (pair[other[0]], other[1])))
    made.extend(_put_in(net, pair, plan))
    net.drop_pair(pair)
    return plan.rule, made


def _plan_of(net, pair):
    """Return the plan for an active pair, or None if there is no rule for it."""
    if pair not in net.pairs():
        raise InvalidStep("the pair is not active")
    first, second = pair
    return plan_for(net.agent(first), net.agent(second))


def _join(net, one, other):
    """Connect the peers of two ports, and return the list of the wires that are made by it."""
    first = net.peer(one[0], one[1])
    second = net.peer(other[0], other[1])
    if first == other:
        return []
    net.connect(first, second)
    return [(first, second, [one, other])]


def _put_in(net, pair, plan):
    """Let new agents take the places of ports of a pair, and return the list of the wires that are made by it."""
    names = [net.new_agent(kind, level, data) for kind, level, data in plan.agents]
    made = [((names[one[0]], one[1]), (names[other[0]], other[1]), []) for one, other in plan.wires]
    places = {(pair[old[0]], old[1]): (names[new[0]], new[1]) for old, new in plan.places.items()}
    for old, new in places.items():
        peer = net.peer(old[0], old[1])
        # Both ends of the wire may be replaced.
        made.append((new, places.get(peer, peer), [old]))
    for one, other, _ in made:
        net.connect(one, other)
    return made
