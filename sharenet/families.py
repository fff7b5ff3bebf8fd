"""Labelled reduction, and the families of its contractions."""

from sharenet.choosing import choice_at
from sharenet.errors import TooLong
from sharenet.heads import joined_heads
from sharenet.labels import Labels
from sharenet.nodes import made_node
from sharenet.reducing import Reduction
from sharenet.unfolding import core_heads


def family_sequence(term, *, choices=(), most=2000):
    """Return the list of the numbers of the families that a reduction contracts, with -1 for number redexes."""
    numbers = {}
    sequence = []
    for form, family in _contractions(term, choices, most):
        if form == "op":
            sequence.append(-1)
        else:
            sequence.append(numbers.setdefault(family, len(numbers)))
    return sequence


def work_of(term, *, most=2000):
    """Return the numbers of the families of beta redexes and of pair redexes of a checked term."""
    beta = {}
    pair = {}
    for form, family in _contractions(term, (), most):
        if form == "app":
            beta[family] = True
        elif form != "op":
            pair[family] = True
    return (len(beta), len(pair))


def _contractions(term, choices, most):
    """Return for each contraction of a reduction the form of its redex, and the label of the node inside it."""
    reduction = _labelled(term)
    made = []
    while reduction.view(choice_at(choices, len(made))):
        if len(made) >= most:
            raise TooLong(f"there are still redexes after {most} contractions")
        redex = reduction.node
        made.append((redex.head[0], redex.parts[0].label))
        reduction.contract_here()
    return made


def _labelled(term):
    """Return a reduction that begins with the labelled core of a checked term."""
    labels = Labels()
    heads = [(head, many, labels.of_marks(numbers)) for head, many, numbers in core_heads(term)]
    return Reduction(joined_heads(heads, made_node), labels)
