"""Slow and plain second versions of what the program does, and terms to compare them on."""

import random

INT = ("int",)


def parts(term):
    """The terms directly inside a term: all tuples behind its form but the kind of a lam."""
    start = 3 if term[0] == "lam" else 1
    return [part for part in term[start:] if isinstance(part, tuple)]


def nodes(term):
    """All nodes of a term, each before its parts."""
    found = [term]
    for part in parts(term):
        found.extend(nodes(part))
    return found


def free_occurrences(term, bound=(), level=0):
    """The pairs of a name and a level for each free occurrence, from left to right."""
    form = term[0]
    if form == "var":
        return [] if term[1] in bound else [(term[1], level)]
    if form == "num":
        return []
    if form == "lam":
        return free_occurrences(term[3], (*bound, term[1]), level)
    if form == "let":
        return free_occurrences(term[2], bound, level) + free_occurrences(term[3], (*bound, term[1]), level)
    if form == "split":
        inner = (*bound, term[1], term[2])
        return free_occurrences(term[3], bound, level) + free_occurrences(term[4], inner, level)
    found = []
    for part in parts(term):
        found += free_occurrences(part, bound, level + 1 if form == "box" else level)
    return found


class NoKind(Exception):
    pass


def kind_of(term, names):
    """The kind of a term by point 12; names is a dict from names to kinds."""
    form = term[0]
    if form == "var":
        return names[term[1]]
    if form == "num":
        return INT
    if form == "op":
        if kind_of(term[2], names) != INT or kind_of(term[3], names) != INT:
            raise NoKind()
        return INT
    if form == "lam":
        return ("fun", term[2], kind_of(term[3], {**names, term[1]: term[2]}))
    if form == "app":
        function = kind_of(term[1], names)
        if function[0] != "fun" or kind_of(term[2], names) != function[1]:
            raise NoKind()
        return function[2]
    if form == "box":
        return ("bang", kind_of(term[1], names))
    if form == "pair":
        return ("pair", kind_of(term[1], names), kind_of(term[2], names))
    if form == "let":
        held = kind_of(term[2], names)
        if held != INT and held[0] != "bang":
            raise NoKind()
        return kind_of(term[3], {**names, term[1]: INT if held == INT else held[1]})
    held = kind_of(term[3], names)
    if held[0] != "pair":
        raise NoKind()
    return kind_of(term[4], {**names, term[1]: held[1], term[2]: held[2]})


def levels_right(term, names, level):
    """If a term that has a kind has right levels; names is a dict from names to kinds."""
    form = term[0]
    if form == "lam":
        return (all(at == level for at in levels(term[1], term[3], level))
                and levels_right(term[3], {**names, term[1]: term[2]}, level))
    if form == "let":
        held = kind_of(term[2], names)
        own = level if held == INT else level + 1
        return (levels_right(term[2], names, level)
                and all(at == own for at in levels(term[1], term[3], level))
                and levels_right(term[3], {**names, term[1]: INT if held == INT else held[1]}, level))
    if form == "split":
        held = kind_of(term[3], names)
        inner = {**names, term[1]: held[1], term[2]: held[2]}
        return (levels_right(term[3], names, level)
                and all(at == level for name in term[1:3] for at in levels(name, term[4], level))
                and levels_right(term[4], inner, level))
    return all(levels_right(part, names, level + 1 if form == "box" else level) for part in parts(term))


def levels(name, term, level):
    return [at for found, at in free_occurrences(term, (), level) if found == name]


def uses_right(term):
    for node in nodes(term):
        body = parts(node)[-1] if parts(node) else None
        if node[0] == "let" and not levels(node[1], body, 0):
            return False
        if node[0] == "lam" and len(levels(node[1], body, 0)) != 1:
            return False
        if node[0] == "split" and any(len(levels(name, body, 0)) != 1 for name in node[1:3]):
            return False
    return True


def verdict(term):
    """The name of the error that checking a term raises, with its name if it has one, or else its kind."""
    free = free_occurrences(term)
    if free:
        return ("UnknownName", free[0][0])
    try:
        kind = kind_of(term, {})
    except NoKind:
        return "KindMismatch"
    if not levels_right(term, {}, 0):
        return "LevelMismatch"
    return kind if uses_right(term) else "UseMismatch"


def with_own_names(term, names, count):
    """A term in which every binder has a name of its own; count is a list of one integer."""
    def fresh(name):
        count[0] += 1
        return f"{name}.{count[0]}"

    form = term[0]
    if form == "var":
        return ("var", names[term[1]])
    if form == "num":
        return term
    if form == "lam":
        name = fresh(term[1])
        return ("lam", name, term[2], with_own_names(term[3], {**names, term[1]: name}, count))
    if form == "let":
        name = fresh(term[1])
        held = with_own_names(term[2], names, count)
        return ("let", name, held, with_own_names(term[3], {**names, term[1]: name}, count))
    if form == "split":
        first, second = fresh(term[1]), fresh(term[2])
        held = with_own_names(term[3], names, count)
        inner = {**names, term[1]: first, term[2]: second}
        return ("split", first, second, held, with_own_names(term[4], inner, count))
    return tuple(with_own_names(part, names, count) if isinstance(part, tuple) else part for part in term)


def replaced(term, name, value):
    """A term with own names in which a name is replaced by a value."""
    if term == ("var", name):
        return value
    return tuple(replaced(part, name, value) if isinstance(part, tuple) else part for part in term)


def named_core(term):
    """The core of a term with own names, in which variables still have their names."""
    form = term[0]
    if form == "box":
        return named_core(term[1])
    if form == "let":
        return replaced(named_core(term[3]), term[1], named_core(term[2]))
    if form == "split":
        held = named_core(term[3])
        once = replaced(named_core(term[4]), term[1], ("fst", held))
        return replaced(once, term[2], ("snd", held))
    if form == "lam":
        return ("lam", term[1], named_core(term[3]))
    return tuple(named_core(part) if isinstance(part, tuple) else part for part in term)


def numbered(core, binders):
    if core[0] == "var":
        return ("var", binders[::-1].index(core[1]))
    if core[0] == "lam":
        return ("lam", numbered(core[2], [*binders, core[1]]))
    return tuple(numbered(part, binders) if isinstance(part, tuple) else part for part in core)


def core(term):
    """The core of a checked term by point 18."""
    return numbered(named_core(with_own_names(term, {}, [0])), [])


class Maker:
    """Makes checked terms, the same ones in every run.

    While a term is made, each binder has a name of its own, such as x12. names is a dict from the names around a
    place to their kinds and levels and to whether they may be used only once.
    """

    def __init__(self, seed):
        self.random = random.Random(seed)
        self.left = 0
        self.count = 0
        self.used = set()

    def checked(self):
        """A checked term with some nodes."""
        while True:
            self.left, self.count, self.used = 40, 0, set()
            term = self.term(self.kind(2), {}, 0)
            if len(nodes(term)) > 8 and len(self.used) == self.count:
                return self.renamed(term)

    def kind(self, most):
        form = self.random.choice(["int", "int", "int", "fun", "bang", "pair"]) if most > 0 else "int"
        if form == "int":
            return INT
        if form == "bang":
            return ("bang", self.kind(most - 1))
        return (form, self.kind(most - 1), self.kind(most - 1))

    def term(self, kind, names, level):
        self.left -= 1
        fitting = [name for name in names if names[name][:2] == (kind, level)]
        unused = [name for name in fitting if name not in self.used]
        if unused and self.random.random() < 0.8:
            return self.occurrence(self.random.choice(unused))
        again = [name for name in fitting if not names[name][2]]
        if again and (self.left <= 0 or self.random.random() < 0.6):
            return self.occurrence(self.random.choice(again))
        if self.left > 0 and self.random.random() < 0.5:
            return self.eliminated(kind, names, level)
        return self.introduced(kind, names, level)

    def occurrence(self, name):
        self.used.add(name)
        return ("var", name)

    def introduced(self, kind, names, level):
        """A number, an operation, a function, a box or a pair."""
        if kind[0] == "fun":
            name = self.name()
            body = self.term(kind[2], {**names, name: (kind[1], level, True)}, level)
            if name not in self.used and kind[1] == kind[2] == INT:
                body = ("op", "-", body, self.occurrence(name))
            return ("lam", name, kind[1], body)
        if kind[0] == "bang":
            return ("box", self.term(kind[1], names, level + 1))
        if kind[0] == "pair":
            return ("pair", self.term(kind[1], names, level), self.term(kind[2], names, level))
        if self.left > 0 and self.random.random() < 0.8:
            sign = self.random.choice("+-*")
            return ("op", sign, self.term(INT, names, level), self.term(INT, names, level))
        return ("num", self.random.randrange(4))

    def eliminated(self, kind, names, level):
        """An application, a let or a split."""
        form = self.random.choice(["app", "app", "let", "let", "split"])
        if form == "app":
            given = self.kind(1)
            return ("app", self.term(("fun", given, kind), names, level), self.term(given, names, level))
        name = self.name()
        if form == "let":
            held = self.random.choice([INT, ("bang", self.kind(1))])
            own = (INT, level, False) if held == INT else (held[1], level + 1, False)
            body = self.term(kind, {**names, name: own}, level)
            if name not in self.used:
                self.used.add(name)
                return body
            return ("let", name, self.term(held, names, level), body)
        other = self.name()
        first, second = self.kind(1), self.kind(1)
        body = self.term(kind, {**names, name: (first, level, True), other: (second, level, True)}, level)
        if name not in self.used and other not in self.used:
            self.used.add(name)
            self.used.add(other)
            return body
        return ("split", name, other, self.term(("pair", first, second), names, level), body)

    def name(self):
        self.count += 1
        return f"x{self.count}"

    def renamed(self, term):
        """A term with few different names, so that inner bindings hide outer ones."""
        form = term[0]
        if form == "lam":
            name, body = self.letters(term[1:2], term[3])
            return ("lam", name, term[2], body)
        if form == "let":
            name, body = self.letters(term[1:2], term[3])
            return ("let", name, self.renamed(term[2]), body)
        if form == "split":
            first, second, body = self.letters(term[1:3], term[4])
            return ("split", first, second, self.renamed(term[3]), body)
        return tuple(self.renamed(part) if isinstance(part, tuple) else part for part in term)

    def letters(self, names, body):
        """New names for names, and the body with them, in which no inner binder catches one."""
        body = self.renamed(body)
        chosen = []
        for name in names:
            free = [letter for letter in "abcdefghijklmnopqrst"
                    if letter not in chosen and not caught(body, name, letter, False)]
            letter = self.random.choice(free[:2])
            chosen.append(letter)
            body = replaced(body, name, ("var", letter))
        return (*chosen, body)

    def spoiled(self, term):
        """A term with one node changed at random."""
        return self.changed_at(term, [self.random.randrange(len(nodes(term)))])

    def changed_at(self, term, left):
        """A term in which the node whose turn it is, is changed; left is a list of one integer."""
        left[0] -= 1
        if left[0] == -1:
            return self.changed(term)
        start = 3 if term[0] == "lam" else 1
        return term[:start] + tuple(
            self.changed_at(part, left) if isinstance(part, tuple) else part for part in term[start:])

    def changed(self, term):
        letter = self.random.choice("abc")
        choice = self.random.randrange(4)
        if term[0] == "var" and choice < 3:
            return ("var", letter)
        if term[0] == "lam" and choice < 3:
            return ("lam", term[1], self.kind(1), term[3])
        if term[0] == "box" and choice < 3:
            return term[1]
        if term[0] == "let" and choice < 3:
            return ("let", letter, term[2], term[3])
        return self.random.choice([("box", term), ("num", 7), ("var", letter), ("op", "+", term, ("num", 1))])


def caught(term, name, letter, below):
    """If a free occurrence of a name stands below a binder of a letter."""
    if term[0] == "var":
        return below and term[1] == name
    binds = {"lam": term[1:2], "let": term[1:2], "split": term[1:3]}.get(term[0], ())
    inside = parts(term)
    return (any(caught(part, name, letter, below) for part in inside[:-1])
            or any(caught(part, name, letter, below or letter in binds) for part in inside[-1:]))
