"""Checking the kinds, the levels and the uses of terms and programs."""

from sharenet.errors import KindMismatch, LevelMismatch, UnknownName, UseMismatch
from sharenet.kinds import INT, bang_kind, fun_kind, pair_kind, same_kind
from sharenet.linking import linked
from sharenet.terms import bound_names, free_names, parts_of
from sharenet.walking import walked


def check_term(term):
    """Return the kind of a checked term."""
    unknown = free_names(term)
    if unknown:
        raise UnknownName(unknown[0])
    return _checked_kind(term, {})


def check_program(program):
    """Raise the first error of a program, if it has one."""
    if not program:
        return
    linked(program, program[-1][0])
    names = {}
    for name, stated, term in program:
        # The linked term is right exactly if this one is, since what is put in is checked and closed.
        kind = _checked_kind(term, names)
        if not same_kind(kind, stated):
            raise KindMismatch(f"the definition {name} does not have the kind that it states")
        names[name] = Binding(kind, None, False)


def levels_of(term, name):
    """Return the list of the levels of the free occurrences of a name, from left to right."""
    levels = []
    waiting = [(term, 0)]
    while waiting:
        node, level = waiting.pop()
        if node == ("var", name):
            levels.append(level)
        inner = level + 1 if node[0] == "box" else level
        parts = parts_of(node)
        if name in bound_names(node):
            parts.pop()
        waiting.extend([(part, inner) for part in parts[::-1]])
    return levels


def _checked_kind(term, names):
    """Return the kind of a term whose free names have the bindings of a dict."""
    checker = Checker()
    kind = walked(term, names, checker)
    if not checker.levels_right:
        raise LevelMismatch("a name does not occur at its level")
    if not all([binding.is_used_right() for binding in checker.bindings]):
        raise UseMismatch("a name does not occur as often as it should")
    return kind


class Binding:
    """A name that is bound: its kind, its level (None if it may be used at any level) and its uses."""

    def __init__(self, kind, level, once):
        self.kind = kind
        self.level = level
        self.once = once
        self.uses = 0

    def is_used_right(self):
        """Return True if the name occurs as often as it should."""
        return self.uses == 1 if self.once else self.uses > 0


class Checker:
    """A visitor that determines kinds, and notes what else it finds, since kinds come first."""

    def __init__(self):
        self.bindings = []
        self.levels_right = True

    def bound(self, node, part, level):
        """Return the bindings of the names of a node; part is the kind of its first part."""
        bindings = _bindings(node, part, level)
        self.bindings.extend(bindings)
        return bindings

    def used(self, meaning, level):
        """Return the kind of a name."""
        meaning.uses += 1
        if meaning.level is not None and meaning.level != level:
            self.levels_right = False
        return meaning.kind

    def made(self, node, level, meanings, parts):
        """Return the kind of a node from the kinds of its parts."""
        if node[0] == "lam":
            return fun_kind(node[2], parts[0])
        if node[0] == "box":
            return bang_kind(parts[0])
        if node[0] == "pair":
            return pair_kind(parts[0], parts[1])
        if node[0] == "app":
            return _applied_kind(parts[0], parts[1])
        if node[0] in ("let", "split"):
            return parts[1]
        for kind in parts:
            _need_form(kind, "int")
        return INT


def _bindings(node, part, level):
    """Return the list of the bindings of the names of a node; part is the kind of its first part."""
    if node[0] == "lam":
        return [Binding(node[2], level, True)]
    if node[0] == "split":
        _need_form(part, "pair")
        return [Binding(part[1], level, True), Binding(part[2], level, True)]
    if part[0] == "bang":
        return [Binding(part[1], level + 1, False)]
    _need_form(part, "int")
    return [Binding(INT, level, False)]


def _applied_kind(function, argument):
    """Return the kind of an application from the kinds of its function and its argument."""
    _need_form(function, "fun")
    if not same_kind(function[1], argument):
        raise KindMismatch("an argument has another kind than the parameter")
    return function[2]


def _need_form(kind, form):
    """Raise KindMismatch if a kind is not of a certain form."""
    if kind[0] != form:
        raise KindMismatch(f"there is a kind of the form {kind[0]} instead of {form}")
