"""Rounds, in which all active pairs interact, and the depths of interactions."""

from sharenet.choosing import choice_at
from sharenet.errors import InvalidStep, TooLong
from sharenet.rules import interact, interact_traced, rule_of


def run_rounds(net, *, most=10000):
    """Execute rounds until a net is finished, and return the list of the numbers of interactions of the rounds."""
    sizes = []
    pairs = net.pairs()
    while pairs:
        if None in [rule_of(net, pair) for pair in pairs]:
            raise InvalidStep("there is no rule for a pair of the round")
        if sum(sizes) + len(pairs) > most:
            raise TooLong(f"the rounds make more than {most} interactions")
        for pair in pairs:
            interact(net, pair)
        sizes.append(len(pairs))
        pairs = net.pairs()
    return sizes


def depths_of(net, *, choices=(), most=10000):
    """Let pairs of a net interact until it is finished, and return the list of the depths of the interactions."""
    depths = []
    times = {}
    pairs = net.pairs()
    while pairs:
        if len(depths) >= most:
            raise TooLong(f"there are still pairs after {most} interactions")
        pair = pairs[choice_at(choices, len(depths)) % len(pairs)]
        depth = 1 + times.get((pair[0], 0), 0)
        _, made = interact_traced(net, pair)
        _note_times(times, depth, made)
        depths.append(depth)
        pairs = net.pairs()
    return depths


def _note_times(times, depth, made):
    """Note the times of the wires that an interaction made; times is a dict from ports, and 0 for all others."""
    for one, other, sources in made:
        time = max([depth, *[times.get(port, 0) for port in sources]])
        times[one] = time
        times[other] = time
