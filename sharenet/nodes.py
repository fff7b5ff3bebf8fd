"""Core terms as nodes that know what is inside them."""

from sharenet.heads import heads_of, joined_heads


class Node:
    """A node of a core term, with a label.

    It is never changed, so terms share nodes. Reductions therefore take a time that depends on the number of
    different nodes, even where a term with all its copies would be far too large.

    `free` is the least number of lams around the node that would bind all variables in it, and `redexes` is the
    number of the redexes in it.
    """

    def __init__(self, head, parts, label):
        self.head = head
        self.parts = parts
        self.label = label
        self.free = _free_in(head, parts)
        self.is_redex = makes_redex(head[0], [part.head[0] for part in parts])
        self.redexes = sum([part.redexes for part in parts]) + (1 if self.is_redex else 0)


def makes_redex(form, inside):
    """Return True if a node of a form, whose parts have certain forms, is a redex."""
    if form == "app":
        return inside[0] == "lam"
    if form in ("fst", "snd"):
        return inside[0] == "pair"
    return form == "op" and inside == ["num", "num"]


def node_of(core):
    """Return the node for a core term, without labels."""
    return joined_heads(heads_of(core), made_node)


def made_node(head, parts, label):
    """Return a new node."""
    return Node(head, parts, label)


def core_of_node(node):
    """Return the core term of a node."""
    done = {}
    waiting = [node]
    while waiting:
        here = waiting[-1]
        missing = [part for part in here.parts if part not in done]
        if missing:
            waiting.extend(missing)
        else:
            done[here] = here.head + tuple([done[part] for part in here.parts])
            waiting.pop()
    return done[node]


def with_part(node, number, part):
    """Return a node with another part."""
    parts = list(node.parts)
    parts[number] = part
    return Node(node.head, parts, node.label)


def with_label(node, label):
    """Return a node with another label."""
    return Node(node.head, node.parts, label)


def renumbered(variable, by):
    """Return a variable with another number."""
    return Node(("var", variable.head[1] + by), [], variable.label)


def with_variables(node, replacer):
    """Return a node in which something takes the place of each variable that no lam in it binds.

    The replacer has the method replaced(variable, lams), which returns the node for the place of a variable; lams is
    the number of the lams in the node that stand around it.
    """
    done = {}
    waiting = [(node, 0)]
    while waiting:
        place = waiting[-1]
        missing = [inner for inner in _places_in(place) if inner not in done]
        if missing:
            waiting.extend(missing)
            continue
        waiting.pop()
        if place not in done:
            done[place] = _rebuilt(place, replacer, done)
    return done[(node, 0)]


def _places_in(place):
    """Return the list of the parts of a node, with the lams around them, if there is something to replace there."""
    node, lams = place
    if node.free <= lams:
        return []
    inner = lams + 1 if node.head[0] == "lam" else lams
    return [(part, inner) for part in node.parts]


def _rebuilt(place, replacer, done):
    """Return a node with its variables replaced; done is a dict with what became of its parts."""
    node, lams = place
    if node.free <= lams:
        return node
    if node.head[0] == "var":
        return replacer.replaced(node, lams)
    return Node(node.head, [done[inner] for inner in _places_in(place)], node.label)


def _free_in(head, parts):
    """Return the least number of lams that would bind all variables in a node."""
    if head[0] == "var":
        return head[1] + 1
    free = max([part.free for part in parts], default=0)
    return max(free - 1, 0) if head[0] == "lam" else free
