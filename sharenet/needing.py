"""Reduction by need: the normal form with suspensions that are shared, without a net."""

from sharenet.checking import check_term
from sharenet.heads import nested_from
from sharenet.suspensions import NeedMachine, Suspension, known_value


def need_normal(term, *, most=10000):
    """Return the normal form of the core of a checked term and the number of steps."""
    check_term(term)
    machine = NeedMachine(most)
    heads = []
    waiting = [(Suspension(term, {}), 0)]
    while waiting:
        suspension, lams = waiting.pop()
        head, parts = _read_off(machine.value_of(suspension), lams)
        heads.append((head, len(parts), None))
        inner = lams + 1 if head[0] == "lam" else lams
        waiting.extend([(part, inner) for part in parts[::-1]])
    return (nested_from(heads), machine.steps)


def _read_off(value, lams):
    """Return the head of the core term for a value below some lams, and the list of the suspensions of its parts."""
    form = value[0]
    if form == "num":
        return value, []
    if form == "var":
        return ("var", lams - value[1] - 1), []
    if form == "lam":
        _, name, body, meanings = value
        return ("lam",), [Suspension(body, {**meanings, name: known_value(("var", lams))})]
    if form == "pair":
        return ("pair",), [value[1], value[2]]
    if form == "app":
        return ("app",), [known_value(value[1]), value[2]]
    if form == "op":
        return ("op", value[1]), [known_value(value[2]), known_value(value[3])]
    return (form,), [known_value(value[1])]
