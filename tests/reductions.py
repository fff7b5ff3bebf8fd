"""A slow and plain second version of plain and labelled reduction, by points 17 to 24, and core terms to try it on.

A labelled core term is here a tuple of its form, its label, its data if it has some, and its parts. A label is a tuple
of marks: numbers, and tuples of a word and a label.
"""

import random

DATA = {"var": 1, "num": 1, "op": 1}


def split_node(term):
    """The head of a labelled core term and the list of its parts."""
    first = 2 + DATA.get(term[0], 0)
    return term[:first], list(term[first:])


def forms(term):
    return [part[0] for part in split_node(term)[1]]


def is_redex(term):
    if term[0] == "app":
        return forms(term)[0] == "lam"
    if term[0] in ("fst", "snd"):
        return forms(term)[0] == "pair"
    return term[0] == "op" and forms(term) == ["num", "num"]


def redexes(term, path=()):
    found = [path] if is_redex(term) else []
    for number, part in enumerate(split_node(term)[1]):
        found += redexes(part, (*path, number))
    return found


def before(label, term):
    """L a for a label L and a labelled core term a."""
    return (term[0], label + term[1], *term[2:])


def lifted(term, by, lams=0):
    head, parts = split_node(term)
    if term[0] == "var":
        return ("var", term[1], term[2] + by if term[2] >= lams else term[2])
    return (*head, *[lifted(part, by, lams + (term[0] == "lam")) for part in parts])


def put_in(term, argument, family, lams=0):
    """The body of a lam with an argument in the place of its variable."""
    head, parts = split_node(term)
    if term[0] == "var":
        if term[2] == lams:
            return before(term[1] + (("under", family),), lifted(argument, lams))
        return ("var", term[1], term[2] - 1 if term[2] > lams else term[2])
    return (*head, *[put_in(part, argument, family, lams + (term[0] == "lam")) for part in parts])


def contracted(term):
    """A redex after its contraction, and its family."""
    label, parts = term[1], split_node(term)[1]
    family = parts[0][1]
    if term[0] == "app":
        return before(label + (("over", family),), put_in(parts[0][2], parts[1], family)), family
    if term[0] == "fst":
        return before(label + (("first", family),), parts[0][2]), family
    if term[0] == "snd":
        return before(label + (("second", family),), parts[0][3]), family
    a, b = parts[0][2], parts[1][2]
    return ("num", label, {"+": a + b, "-": a - b, "*": a * b}[term[2]]), None


def contract(term, path):
    """A term after the contraction of the redex at a path, and its family."""
    if not path:
        return contracted(term)
    head, parts = split_node(term)
    parts[path[0]], family = contract(parts[path[0]], path[1:])
    return (*head, *parts), family


def with_labels(core, label=()):
    """A core term with the same label at all nodes."""
    data = core[1:1 + DATA.get(core[0], 0)]
    return (core[0], label, *data, *[with_labels(part, label) for part in core[1 + len(data):]])


def without_labels(term):
    head, parts = split_node(term)
    return (head[0], *head[2:], *[without_labels(part) for part in parts])


class Labelling:
    """Makes the labelled core of a checked term by point 22."""

    def __init__(self):
        self.count = 0

    def core(self, term, names, lams=0):
        """names is a dict from names to what their occurrences are: a lam, or a labelled term below so many lams."""
        self.count += 1
        label, form = (self.count,), term[0]
        if form == "var":
            sort, meaning, below = names[term[1]]
            if sort == "lam":
                return ("var", label, lams - below - 1)
            meaning = lifted(meaning, lams - below)
            return before(label, meaning) if sort == "let" else (sort, label, meaning)
        if form == "num":
            return ("num", label, term[1])
        if form == "op":
            return ("op", label, term[1], self.core(term[2], names, lams), self.core(term[3], names, lams))
        if form in ("app", "pair"):
            return (form, label, self.core(term[1], names, lams), self.core(term[2], names, lams))
        if form == "lam":
            return ("lam", label, self.core(term[3], {**names, term[1]: ("lam", None, lams)}, lams + 1))
        if form == "box":
            return before(label, self.core(term[1], names, lams))
        if form == "let":
            held = self.core(term[2], names, lams)
            return before(label, self.core(term[3], {**names, term[1]: ("let", held, lams)}, lams))
        held = self.core(term[3], names, lams)
        inner = {**names, term[1]: ("fst", held, lams), term[2]: ("snd", held, lams)}
        return before(label, self.core(term[4], inner, lams))


def families(term, choices):
    """The families of a reduction, with None for number redexes, and the normal form."""
    core = Labelling().core(term, {})
    found = []
    while redexes(core):
        paths = redexes(core)
        choice = choices[len(found)] if len(found) < len(choices) else 0
        core, family = contract(core, paths[choice % len(paths)])
        found.append(family)
    return found, without_labels(core)


def numbered(found):
    """A list of families as numbers in the order in which they first occur, and -1 for None."""
    order = list(dict.fromkeys(family for family in found if family is not None))
    return [-1 if family is None else order.index(family) for family in found]


class CoreMaker:
    """Makes core terms of all forms, closed or not, the same ones in every run."""

    def __init__(self, seed):
        self.random = random.Random(seed)

    def core(self, size):
        """A core term of at most so many nodes; applications and projections are often redexes."""
        if size < 3:
            return self.random.choice([("var", self.random.randrange(4)), ("num", self.random.randrange(-3, 4))])
        form = self.random.choice(["op", "op", "lam", "app", "app", "beta", "beta", "pair", "fst", "snd", "proj"])
        if form == "lam":
            return ("lam", self.core(size - 1))
        if form in ("fst", "snd"):
            return (form, self.core(size - 1))
        first = self.random.randrange(1, size - 1)
        a, b = self.core(first), self.core(size - 1 - first)
        if form == "op":
            return ("op", self.random.choice("+-*"), a, b)
        if form == "beta":
            return ("app", ("lam", a), b)
        if form == "proj":
            return (self.random.choice(["fst", "snd"]), ("pair", a, b))
        return (form, a, b)
