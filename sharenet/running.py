"""Letting the pairs of a net interact until it is finished."""

from sharenet.choosing import choice_at
from sharenet.errors import TooLong
from sharenet.rules import interact

RULES = ("beta", "unpair", "annihilate", "duplicate", "operate")


def run_net(net, *, choices=(), most=10000):
    """Let pairs of a net interact until it is finished, and return the numbers of interactions by the rules."""
    rules = []
    pairs = net.pairs()
    while pairs:
        if len(rules) >= most:
            raise TooLong(f"there are still pairs after {most} interactions")
        choice = choice_at(choices, len(rules))
        rules.append(interact(net, pairs[choice % len(pairs)]))
        pairs = net.pairs()
    return rule_counts(rules)


def rule_counts(rules):
    """Return the tuple of the numbers of interactions by the rules, from the list of their rules."""
    return tuple([rules.count(rule) for rule in RULES])
