"""What takes the places of two agents that interact: the rules of nets, for whatever keeps a net."""

from sharenet.arithmetic import result_of
from sharenet.net import PORTS

# The rules for two agents of the same level.
_SAME_LEVEL = {("lam", "app"): "beta", ("pair", "split"): "unpair", ("fan", "fan"): "annihilate"}


class Plan:
    """What the interaction of a pair removes and makes.

    An old port is a tuple of the place of its agent in the pair, 0 or 1, and the number of the port. A new port is a
    tuple of the place of its agent in the list of the new agents, `agents`, and the number of the port. `wires` has
    the wires between new ports, and `joins` the tuples of two old ports that are joined. `places` is a dict from all
    other old ports that are not principal to the new ports that take their places.
    """

    def __init__(self, rule):
        self.rule = rule
        self.agents = []
        self.wires = []
        self.joins = []
        self.places = {}


def plan_for(first, second):
    """Return the plan for the agents of a pair, or None if there is no rule for them."""
    rule = _rule_between(first, second)
    if rule is not None:
        return _plan_by(rule, first, second, (0, 1))
    rule = _rule_between(second, first)
    if rule is not None:
        return _plan_by(rule, second, first, (1, 0))
    return None


def _rule_between(first, second):
    """Return the name of the rule for two agents, the first of which takes the first place in it, or None."""
    kind, level, _ = first
    other, height, _ = second
    if level == height and (kind, other) in _SAME_LEVEL:
        return _SAME_LEVEL[(kind, other)]
    if kind == "fan" and (other == "num" or level < height):
        return "duplicate"
    if kind == "num" and other in ("op", "op1"):
        return "operate"
    return None


def _plan_by(rule, first, second, sides):
    """Return the plan for a rule and its two agents, which stand at two places in the pair."""
    plan = Plan(rule)
    if rule == "duplicate":
        _add_copies(plan, first, second, sides)
    elif rule == "operate":
        _add_result(plan, first, second, sides[1])
    else:
        plan.joins.extend([((0, 1), (1, 1)), ((0, 2), (1, 2))])
    return plan


def _add_copies(plan, fan, agent, sides):
    """Let a fan make two copies of an agent, which share the wires of the agent through new fans."""
    fan_side, side = sides
    plan.agents.extend([agent, agent])
    plan.places[(fan_side, 1)] = (0, 0)
    plan.places[(fan_side, 2)] = (1, 0)
    for port in range(1, PORTS[agent[0]]):
        new_fan = len(plan.agents)
        plan.agents.append(fan)
        plan.wires.extend([((new_fan, 1), (0, port)), ((new_fan, 2), (1, port))])
        plan.places[(side, port)] = (new_fan, 0)


def _add_result(plan, number, agent, side):
    """Let an operation take a number as its next operand."""
    kind, level, data = agent
    if kind == "op":
        plan.agents.append(("op1", level, (data, number[2])))
        plan.places[(side, 1)] = (0, 0)
        plan.places[(side, 2)] = (0, 1)
    else:
        plan.agents.append(("num", 0, result_of(data[0], data[1], number[2])))
        plan.places[(side, 1)] = (0, 0)
