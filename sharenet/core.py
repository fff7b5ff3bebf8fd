"""Core terms, and the core of a checked term."""

from sharenet.checking import check_term
from sharenet.errors import TooLarge
from sharenet.texts import decimal, written
from sharenet.walking import walked

_MOST_NODES = 20000

# The parts of a core term are its last items; this is where they begin.
_FIRST_PART = {"var": 2, "num": 2, "op": 2, "lam": 1, "app": 1, "pair": 1, "fst": 1, "snd": 1}


def core_size(core):
    """Return the number of the nodes of a core term."""
    size = 0
    waiting = [core]
    while waiting:
        size += 1
        waiting.extend(core_parts(waiting.pop()))
    return size


def core_text(core):
    """Return the text of a core term."""
    return written(core, _pieces)


def is_closed(core):
    """Return True if every variable of a core term is bound, otherwise False."""
    waiting = [(core, 0)]
    while waiting:
        node, lams = waiting.pop()
        if node[0] == "var" and node[1] >= lams:
            return False
        inner = lams + 1 if node[0] == "lam" else lams
        waiting.extend([(part, inner) for part in core_parts(node)])
    return True


def core_of(term):
    """Return the core of a checked term."""
    check_term(term)
    graph = Graph()
    root = walked(term, {}, graph)
    if graph.sizes[root] > _MOST_NODES:
        raise TooLarge(f"the core has more than {_MOST_NODES} nodes")
    return _joined(_heads_from(graph.nodes, root))


def core_parts(core):
    """Return the list of the parts of a core term."""
    return list(core[_FIRST_PART[core[0]]:])


def _pieces(core):
    """Return the pieces of the text of a core term."""
    form = core[0]
    if form == "var":
        return [f"#{core[1]}"]
    if form == "num":
        return [decimal(core[1])]
    if form == "op":
        return ["(", core[2], f" {core[1]} ", core[3], ")"]
    if form == "lam":
        return ["^", core[1]]
    if form == "app":
        return ["(", core[1], " ", core[2], ")"]
    if form == "pair":
        return ["<", core[1], ", ", core[2], ">"]
    return [f"({form} ", core[1], ")"]


class Graph:
    """A visitor that makes numbered nodes, in which all occurrences of a name share the node that they stand for.

    A core may be far larger than its graph, so its size is known before it is built. A node is a tuple of its
    head and the list of the numbers of its parts. The head is the core term without its parts; for a variable
    it has no number yet, and for a lam it has the number of the node of its variable.
    """

    def __init__(self):
        self.nodes = []
        self.sizes = []

    def added(self, head, parts):
        """Add a node and return its number."""
        self.nodes.append((head, parts))
        self.sizes.append(1 + sum([self.sizes[part] for part in parts]))
        return len(self.nodes) - 1

    def bound(self, node, part, level):
        """Return the nodes that the names of a node stand for."""
        if node[0] == "lam":
            return [self.added(("var",), [])]
        if node[0] == "let":
            return [part]
        return [self.added(("fst",), [part]), self.added(("snd",), [part])]

    def used(self, meaning, level):
        """Return the node that a name stands for."""
        return meaning

    def made(self, node, meanings, parts):
        """Return the node for a node of the term."""
        if node[0] in ("box", "let", "split"):
            return parts[-1]
        if node[0] == "lam":
            return self.added(("lam", meanings[0]), parts)
        if node[0] in ("num", "op"):
            return self.added(node[:2], parts)
        return self.added(node[:1], parts)


def _heads_from(nodes, root):
    """Return the list of the heads of a core, each with its number of parts, every node before its parts."""
    heads = []
    lams_above = {}
    waiting = [(root, 0)]
    while waiting:
        at, lams = waiting.pop()
        head, parts = nodes[at]
        if head[0] == "var":
            # A lam never stands inside itself, so the copy that was met last is the one around this place.
            head = ("var", lams - lams_above[at] - 1)
        elif head[0] == "lam":
            lams_above[head[1]] = lams
            head = ("lam",)
            lams += 1
        heads.append((head, len(parts)))
        waiting.extend([(part, lams) for part in parts[::-1]])
    return heads


def _joined(heads):
    """Return the core term with a list of heads."""
    done = []
    for head, many in reversed(heads):
        start = len(done) - many
        parts = done[start:]
        del done[start:]
        done.append(head + tuple(parts[::-1]))
    return done.pop()
