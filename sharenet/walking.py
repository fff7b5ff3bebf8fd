"""Going through a term from left to right with the meanings of its names."""

from sharenet.terms import bound_names, parts_of


def walked(term, names, visitor):
    """Return what a visitor makes of a term whose free names have the meanings of a dict.

    The visitor has three methods, which are called from left to right:
    - used(meaning, level) returns the result for an occurrence of a name at a level;
    - bound(node, part, level) returns the list of the meanings of the names that a node binds. It is called
      before the last part of the node is entered; part is the result for its first part, and None for a lam;
    - made(node, level, meanings, parts) returns the result for a node other than an occurrence, from the meanings
      of the names that it binds and the results for its parts.
    """
    walk = Walk(visitor)
    walk.waiting.append(("enter", term, names, 0))
    while walk.waiting:
        stage, node, known, level = walk.waiting.pop()
        if stage == "enter":
            walk.enter(node, known, level)
        elif stage == "bind":
            walk.bind(node, known, level)
        else:
            walk.leave(node, known, level)
    return walk.results.pop()


class Walk:
    """The stages that are still to come and the results that no node has taken yet.

    Terms may be deeper than Python's calls may be nested, so the walk keeps these stacks itself.
    """

    def __init__(self, visitor):
        self.visitor = visitor
        self.waiting = []
        self.results = []

    def enter(self, node, names, level):
        """Meet a node before its parts."""
        parts = parts_of(node)
        if node[0] == "var":
            self.results.append(self.visitor.used(names[node[1]], level))
        elif bound_names(node):
            self.waiting.append(("bind", node, names, level))
            self.await_parts(parts[:-1], names, level)
        else:
            self.waiting.append(("leave", node, [], level))
            self.await_parts(parts, names, level + 1 if node[0] == "box" else level)

    def bind(self, node, names, level):
        """Meet a node that binds names before its last part, in which they have a meaning."""
        parts = parts_of(node)
        first = self.results[-1] if len(parts) > 1 else None
        meanings = self.visitor.bound(node, first, level)
        inner = dict(names)
        for name, meaning in zip(bound_names(node), meanings):
            inner[name] = meaning
        self.waiting.append(("leave", node, meanings, level))
        self.await_parts(parts[-1:], inner, level)

    def leave(self, node, meanings, level):
        """Meet a node behind its parts."""
        start = len(self.results) - len(parts_of(node))
        parts = self.results[start:]
        del self.results[start:]
        self.results.append(self.visitor.made(node, level, meanings, parts))

    def await_parts(self, parts, names, level):
        """Let parts be entered next, the first one first."""
        for part in reversed(parts):
            self.waiting.append(("enter", part, names, level))
