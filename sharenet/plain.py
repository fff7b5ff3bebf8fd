"""Plain reduction of core terms."""

from sharenet.contracting import contracted
from sharenet.errors import InvalidStep, TooLong
from sharenet.heads import core_parts, core_with_parts
from sharenet.labels import NoLabels
from sharenet.nodes import core_of_node, makes_redex, node_of
from sharenet.reducing import Reduction

# Where the contractions of a form of redex are counted.
_PLACES = {"app": 0, "fst": 1, "snd": 1, "op": 2}


def redexes(core):
    """Return the list of the paths of all redexes, in their order."""
    paths = []
    path = []
    waiting = [(core, 0, 0)]
    while waiting:
        node, depth, number = waiting.pop()
        del path[depth:]
        path.append(number)
        if _is_redex(node):
            paths.append(tuple(path[1:]))
        inner = [(part, depth + 1, at) for at, part in enumerate(core_parts(node))]
        waiting.extend(inner[::-1])
    return paths


def contract(core, path):
    """Return the core term after the contraction of the redex at a path."""
    node = core
    around = []
    for number in path:
        parts = core_parts(node)
        if not 0 <= number < len(parts):
            raise InvalidStep("the path leads to a part that a node does not have")
        around.append((node, parts, number))
        node = parts[number]
    if not _is_redex(node):
        raise InvalidStep("the path does not lead to a redex")
    node = core_of_node(contracted(node_of(node), NoLabels()))
    for outer, parts, number in reversed(around):
        parts[number] = node
        node = core_with_parts(outer, parts)
    return node


def normal_form(core, *, most=10000):
    """Return the normal form that is reached by contracting the first redex."""
    form, _ = _normalized(core, most)
    return form


def normal_steps(core, *, most=10000):
    """Return the numbers of contractions of beta, pair and number redexes that normal_form makes."""
    _, steps = _normalized(core, most)
    return tuple(steps)


def _is_redex(core):
    return makes_redex(core[0], [part[0] for part in core_parts(core)])


def _normalized(core, most):
    """Return the normal form of a core term, and the list of the numbers of contractions."""
    steps = [0, 0, 0]
    reduction = Reduction(node_of(core), NoLabels())
    while reduction.view(0):
        if sum(steps) >= most:
            raise TooLong(f"there are still redexes after {most} contractions")
        steps[_PLACES[reduction.node.head[0]]] += 1
        reduction.contract_here()
    return core_of_node(reduction.whole()), steps
