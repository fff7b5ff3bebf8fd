"""Simplifying terms."""

from sharenet.arithmetic import result_of
from sharenet.checking import check_term
from sharenet.trees import Tree, nodes_of, term_of, tree_of


def is_simple(term):
    """Return True if a checked term is simple, otherwise False."""
    return not any([_has_rule(node) for node in nodes_of(tree_of(term))])


def simplified(term):
    """Return a simple term of the same kind and with the same normal form as a checked term."""
    check_term(term)
    # A box around the tree gives its root, too, a node around it.
    whole = Tree(("box", term), [], [tree_of(term)])
    waiting = nodes_of(whole)
    gone = {}
    while waiting:
        node = waiting.pop()
        if node not in gone and _has_rule(node):
            gone[node] = True
            waiting.extend(_apply_rule(node))
    return term_of(whole.parts[0])


def _has_rule(node):
    """Return True if one of the rules applies at a node."""
    inside = [part.form for part in node.parts]
    if node.form == "app":
        return inside[0] == "lam"
    if node.form == "split":
        return inside[0] == "pair"
    if node.form == "let":
        return inside[0] == "num" or (inside[0] == "box" and len(node.binders[0].uses) == 1)
    return node.form == "op" and inside == ["num", "num"] and _number_from(node) >= 0


def _number_from(node):
    """Return the result of an operation on two numbers."""
    first, second = node.parts
    return result_of(node.term[1], first.term[1], second.term[1])


def _apply_rule(node):
    """Apply the rule for a node, and return the list of the nodes that have got a new part."""
    first = node.parts[0]
    if node.form == "app":
        return _replace_names(node, first.binders, [node.parts[1]], first)
    if node.form == "op":
        return [_replace(node, Tree(("num", _number_from(node)), [], []))]
    if first.form == "num":
        changed = [_replace(use, Tree(first.term, [], [])) for use in node.binders[0].uses]
        return [*changed, _replace(node, node.parts[1])]
    return _replace_names(node, node.binders, first.parts, node)


def _replace_names(node, binders, parts, around):
    """Replace names with one occurrence by parts, and a node by the last part of the node that binds the names.

    Return the list of the nodes that have got a new part.
    """
    changed = [_replace(binder.uses[0], part) for binder, part in zip(binders, parts)]
    return [*changed, _replace(node, around.parts[-1])]


def _replace(node, new):
    """Put a node into the place of another one, and return the node around it."""
    node.outer.put_part(node, new)
    return new.outer
