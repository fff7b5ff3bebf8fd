"""Records of reductions, by which others can check them."""

from sharenet.building import net_of
from sharenet.canonical import canonical_order
from sharenet.choosing import choice_at
from sharenet.errors import TooLong, Unreadable
from sharenet.heads import same_core
from sharenet.readback import read_back
from sharenet.rules import interact


def record_of(term, *, choices=(), most=2000):
    """Return the record of a reduction of the net of a checked term."""
    net = net_of(term)
    record = []
    while net.pairs():
        if len(record) >= most:
            raise TooLong(f"there are still pairs after {most} interactions")
        order = canonical_order(net)
        pairs = _numbered_pairs(net, order)
        pair = pairs[choice_at(choices, len(record)) % len(pairs)]
        record.append(pair)
        _interact_numbered(net, order, pair)
    return record


def check_record(term, record, core):
    """Return True if a record is right for a checked term and a core term, otherwise False."""
    net = net_of(term)
    for pair in record:
        order = canonical_order(net)
        if pair not in _numbered_pairs(net, order):
            return False
        _interact_numbered(net, order, pair)
    return not net.pairs() and _is_read_as(net, core)


def _numbered_pairs(net, order):
    """Return the ascending list of the pairs of the canonical numbers of the agents of the active pairs."""
    numbers = {name: number for number, name in enumerate(order)}
    found = [(numbers[first], numbers[second]) for first, second in net.pairs()]
    return sorted([(min(pair), max(pair)) for pair in found])


def _interact_numbered(net, order, pair):
    """Let the pair with certain canonical numbers interact."""
    first, second = order[pair[0]], order[pair[1]]
    interact(net, (min(first, second), max(first, second)))


def _is_read_as(net, core):
    """Return True if a net is read back as a core term, otherwise False."""
    try:
        return same_core(read_back(net), core)
    except Unreadable:
        return False
