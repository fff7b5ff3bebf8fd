"""From a checked term to the heads of its core, with labels."""

from sharenet.checking import check_term
from sharenet.errors import TooLarge
from sharenet.walking import walked

_MOST_NODES = 20000


def core_heads(term):
    """Return the list of the heads of the core of a checked term.

    Their labels are tuples of numbers, of which every node of the term has its own.
    """
    check_term(term)
    graph = Graph()
    root = walked(term, {}, graph)
    if graph.sizes[root] > _MOST_NODES:
        raise TooLarge(f"the core has more than {_MOST_NODES} nodes")
    return _heads_from(graph.nodes, root)


class Graph:
    """A visitor that makes numbered nodes, in which all occurrences of a name share what it stands for.

    A core may be far larger than its graph, so its size is known before it is built. A node is a tuple of its
    head, the list of the numbers of its parts and its label. The heads of a lam and of its variables have the
    number of the lam, since the numbers of the variables depend on the place where they stand in the end.
    """

    def __init__(self):
        self.nodes = []
        self.sizes = []
        self.lams = 0
        self.marks = 0

    def bound(self, node, part, level):
        """Return the nodes that the names of a node stand for."""
        if node[0] == "let":
            return [self.nodes[part]]
        if node[0] == "split":
            return [(("fst",), [part], ()), (("snd",), [part], ())]
        self.lams += 1
        return [(("var", self.lams), [], ())]

    def used(self, meaning, level):
        """Add a node for an occurrence of a name."""
        return self.added(meaning)

    def made(self, node, level, meanings, parts):
        """Add a node for a node of the term."""
        if node[0] in ("box", "let", "split"):
            return self.added(self.nodes[parts[-1]])
        if node[0] == "lam":
            lam_variable = meanings[0][0]
            return self.added((("lam", lam_variable[1]), parts, ()))
        if node[0] in ("num", "op"):
            return self.added((node[:2], parts, ()))
        return self.added((node[:1], parts, ()))

    def added(self, node):
        """Add a node whose label begins with a number that no other node of the term has; return its number."""
        head, parts, label = node
        self.marks += 1
        self.nodes.append((head, parts, (self.marks, *label)))
        self.sizes.append(1 + sum([self.sizes[part] for part in parts]))
        return len(self.nodes) - 1


def _heads_from(nodes, root):
    """Return the list of the heads of a core that is given as a graph."""
    heads = []
    lams_above = {}
    waiting = [(root, 0)]
    while waiting:
        at, lams = waiting.pop()
        head, parts, label = nodes[at]
        if head[0] == "var":
            # A lam never stands inside itself, so the copy that was met last is the one around this place.
            head = ("var", lams - lams_above[head[1]] - 1)
        elif head[0] == "lam":
            lams_above[head[1]] = lams
            head = ("lam",)
            lams += 1
        heads.append((head, len(parts), label))
        waiting.extend([(part, lams) for part in parts[::-1]])
    return heads
