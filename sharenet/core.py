"""Core terms, and the core of a checked term."""

from sharenet.heads import core_parts, nested_from
from sharenet.texts import decimal, written
from sharenet.unfolding import core_heads


def core_size(core):
    """Return the number of the nodes of a core term."""
    size = 0
    waiting = [core]
    while waiting:
        size += 1
        waiting.extend(core_parts(waiting.pop()))
    return size


def core_text(core):
    """Return the text of a core term."""
    return written(core, _pieces)


def is_closed(core):
    """Return True if every variable of a core term is bound, otherwise False."""
    waiting = [(core, 0)]
    while waiting:
        node, lams = waiting.pop()
        if node[0] == "var" and node[1] >= lams:
            return False
        inner = lams + 1 if node[0] == "lam" else lams
        waiting.extend([(part, inner) for part in core_parts(node)])
    return True


def core_of(term):
    """Return the core of a checked term."""
    return nested_from(core_heads(term))


def _pieces(core):
    """Return the pieces of the text of a core term."""
    form = core[0]
    if form == "var":
        return [f"#{core[1]}"]
    if form == "num":
        return [decimal(core[1])]
    if form == "op":
        return ["(", core[2], f" {core[1]} ", core[3], ")"]
    if form == "lam":
        return ["^", core[1]]
    if form == "app":
        return ["(", core[1], " ", core[2], ")"]
    if form == "pair":
        return ["<", core[1], ", ", core[2], ">"]
    return [f"({form} ", core[1], ")"]
