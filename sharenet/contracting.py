"""Contracting the redexes of nodes, with or without labels."""

from sharenet.arithmetic import result_of
from sharenet.nodes import Node, renumbered, with_label, with_variables


def contracted(redex, labels):
    """Return the node that a redex becomes."""
    if redex.head[0] == "op":
        first, second = redex.parts
        return Node(("num", result_of(redex.head[1], first.head[1], second.head[1])), [], redex.label)
    inner = redex.parts[0]
    if redex.head[0] == "app":
        sort = "over"
        left = with_variables(inner.parts[0], Substitution(inner, redex.parts[1], labels))
    elif redex.head[0] == "fst":
        sort = "first"
        left = inner.parts[0]
    else:
        sort = "second"
        left = inner.parts[1]
    return with_label(left, labels.joined(redex.label, sort, inner.label, left.label))


class Lift:
    """What puts a node below more lams: its variables get greater numbers."""

    def __init__(self, lams):
        self.lams = lams

    def replaced(self, variable, lams):
        """Return the variable with its new number."""
        return renumbered(variable, self.lams)


class Substitution:
    """What puts an argument into the places of the variable of a lam, whose body is no longer below the lam."""

    def __init__(self, lam, argument, labels):
        self.lam = lam
        self.argument = argument
        self.labels = labels
        self.lifted = {0: argument}

    def replaced(self, variable, lams):
        """Return the argument as it stands below some lams, or another variable with its new number."""
        if variable.head[1] > lams:
            return renumbered(variable, -1)
        if lams not in self.lifted:
            self.lifted[lams] = with_variables(self.argument, Lift(lams))
        label = self.labels.joined(variable.label, "under", self.lam.label, self.argument.label)
        return with_label(self.lifted[lams], label)
