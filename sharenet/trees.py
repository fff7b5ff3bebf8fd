"""Terms as trees that can be changed in place, in which occurrences know their binders and not their names."""

from sharenet.heads import nested_from
from sharenet.terms import bound_names, parts_of, with_names, with_parts
from sharenet.walking import walked


class Binder:
    """A name that a node binds, and the list of its occurrences."""

    def __init__(self, name):
        self.name = name
        self.uses = []


class Tree:
    """A node of a tree: a term whose names and parts do not count, its binders, its parts and the node around it.

    The binders are those of the names that it binds, or for an occurrence that of its name.
    """

    def __init__(self, term, binders, parts):
        self.term = term
        self.form = term[0]
        self.binders = binders
        self.parts = parts
        self.outer = None
        for part in parts:
            part.outer = self

    def put_part(self, part, new):
        """Put a new node into the place of a part."""
        self.parts[self.parts.index(part)] = new
        new.outer = self


def tree_of(term):
    """Return the tree of a term without free names."""
    return walked(term, {}, TreeMaker())


class TreeMaker:
    """A visitor that makes trees."""

    def bound(self, node, part, level):
        """Return the binders for the names of a node."""
        return [Binder(name) for name in bound_names(node)]

    def used(self, meaning, level):
        """Return a node for an occurrence."""
        node = Tree(("var", meaning.name), [meaning], [])
        meaning.uses.append(node)
        return node

    def made(self, node, level, meanings, parts):
        """Return the node for a node of the term."""
        return Tree(node, meanings, parts)


def nodes_of(tree):
    """Return the list of the nodes of a tree, each before its parts."""
    found = []
    waiting = [tree]
    while waiting:
        node = waiting.pop()
        found.append(node)
        waiting.extend(node.parts[::-1])
    return found


def term_of(tree):
    """Return the term of a tree; names are kept, unless one would be bound where it is already bound."""
    heads = []
    waiting = [(tree, {})]
    while waiting:
        node, names = waiting.pop()
        inner = _inner_names(node, names)
        own = [inner[binder] for binder in node.binders]
        heads.append((with_parts(with_names(node.term, own), []), len(node.parts), None))
        scoped = [(part, names) for part in node.parts[:-1]] + [(part, inner) for part in node.parts[-1:]]
        waiting.extend(scoped[::-1])
    return nested_from(heads)


def _inner_names(node, names):
    """Return the dict from the binders around the last part of a node to their names."""
    if node.form == "var" or not node.binders:
        return names
    inner = dict(names)
    for binder in node.binders:
        inner[binder] = _free_name(binder.name, list(inner.values()))
    return inner


def _free_name(name, names):
    """Return a name, or one like it if it is one of certain names."""
    number = 0
    found = name
    while found in names:
        found = f"{name[0]}{number}"
        number += 1
    return found
