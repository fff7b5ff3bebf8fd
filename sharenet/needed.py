"""Letting only those pairs interact that are needed for the value of a net."""

from sharenet.errors import InvalidStep, TooLong
from sharenet.rules import interact
from sharenet.running import rule_counts


def value_known(net):
    """Return True if the value of a net is known, otherwise False."""
    name, port = net.peer(net.root, 0)
    return port == 0 and net.agent(name)[0] in ("lam", "pair", "num")


def needed_pair(net):
    """Return the needed pair of a net."""
    if value_known(net):
        raise InvalidStep("the value is known")
    met = {net.root: True}
    name, _ = net.peer(net.root, 0)
    port = 1
    while port > 0:
        met[name] = True
        last = name
        name, port = net.peer(last, 0)
        if name in met:
            raise InvalidStep("the needed path does not end at a pair")
    return (min(last, name), max(last, name))


def run_needed(net, *, most=10000):
    """Let needed pairs interact until the value is known, and return the numbers of interactions by the rules."""
    rules = []
    while not value_known(net):
        if len(rules) >= most:
            raise TooLong(f"the value is not known after {most} interactions")
        rules.append(interact(net, needed_pair(net)))
    return rule_counts(rules)
