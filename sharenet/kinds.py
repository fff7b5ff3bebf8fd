"""Kinds and their texts."""

from sharenet.texts import written

INT = ("int",)


def fun_kind(a, b):
    """Return the kind of the functions from the kind a to the kind b."""
    return ("fun", a, b)


def bang_kind(a):
    """Return the kind of the boxes that hold the kind a."""
    return ("bang", a)


def pair_kind(a, b):
    """Return the kind of the pairs of the kinds a and b."""
    return ("pair", a, b)


def kind_text(kind):
    """Return the text of a kind with as few parentheses as possible."""
    return written((kind, False), _pieces)


def _pieces(item):
    """Return the pieces of the text of a kind, which is tight where no bare arrow may stand."""
    kind, tight = item
    if kind[0] == "int":
        return ["Int"]
    if kind[0] == "bang":
        return ["!", (kind[1], True)]
    if kind[0] == "pair":
        return ["(", (kind[1], False), ", ", (kind[2], False), ")"]
    arrow = [(kind[1], True), " -> ", (kind[2], False)]
    return ["(", *arrow, ")"] if tight else arrow


def same_kind(first, second):
    """Return True if two kinds are equal; kinds may be too deep for Python's own comparison."""
    waiting = [(first, second)]
    while waiting:
        one, other = waiting.pop()
        if one[0] != other[0]:
            return False
        waiting.extend(list(zip(one[1:], other[1:])))
    return True
