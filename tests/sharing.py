"""Checked terms with many boxes and functions that are used several times, so that their nets share much."""

from tests.oracles import INT, Maker, nodes

FUN = ("fun", INT, INT)
PAIR = ("pair", INT, INT)
KINDS = [INT, FUN, FUN, ("fun", FUN, FUN), ("fun", INT, FUN), ("pair", INT, FUN), ("bang", FUN), ("fun", PAIR, PAIR),
         ("fun", ("bang", FUN), ("bang", FUN))]


class Sharer(Maker):
    """Makes terms that begin with names for boxes, and applies functions where it can."""

    def __init__(self, seed, size=60):
        super().__init__(seed)
        self.size = size

    def checked(self):
        while True:
            self.left, self.count, self.used = self.size, 0, set()
            term = self.with_boxes({}, 0, self.random.randrange(1, 5))
            if len(nodes(term)) > 10 and len(self.used) == self.count:
                return self.renamed(term)

    def with_boxes(self, names, level, many):
        """Some names for boxes around a box."""
        if many == 0 and self.random.random() < 0.3:
            return ("box", self.with_boxes(names, level + 1, self.random.randrange(4)))
        if many == 0:
            return ("box", self.term(self.random.choice([INT, INT, FUN, PAIR]), names, level + 1))
        name, kind = self.name(), self.random.choice(KINDS)
        body = self.with_boxes({**names, name: (kind, level + 1, False)}, level, many - 1)
        if name not in self.used:
            self.used.add(name)
            return body
        return ("let", name, self.term(("bang", kind), names, level), body)

    def term(self, kind, names, level):
        functions = [name for name in names if names[name][0][0] == "fun" and names[name][0][2] == kind
                     and names[name][1] == level and not (names[name][2] and name in self.used)]
        if functions and self.left > 0 and self.random.random() < 0.7:
            self.left -= 1
            name = self.random.choice(functions)
            return ("app", self.occurrence(name), self.term(names[name][0][1], names, level))
        return super().term(kind, names, level)


def numeral(count, kind=INT):
    """The numeral of a count over a kind."""
    body = ("var", "x")
    for _ in range(count):
        body = ("app", ("var", "g"), body)
    step = ("fun", kind, kind)
    return ("lam", "f", ("bang", step), ("let", "g", ("var", "f"), ("box", ("lam", "x", kind, body))))


def applied(count, function, argument, kind=INT):
    """A term that applies a function so many times to an argument."""
    many = ("app", numeral(count, kind), ("box", function))
    return ("let", "r", many, ("box", ("app", ("var", "r"), argument)))


def doubled(times):
    """Numerals 2 that are applied to one another around the identity."""
    term = ("box", ("lam", "x", INT, ("var", "x")))
    for _ in range(times):
        term = ("app", numeral(2), term)
    return term


KEPT = {}


def made(many, size=60):
    """So many checked terms of a Maker, and so many of a Sharer; they are kept, because it is slow to make them."""
    found = []
    for name, maker in (("maker", Maker(1)), ("sharer", Sharer(1, size))):
        maker, terms = KEPT.setdefault((name, name == "sharer" and size), (maker, []))
        while len(terms) < many:
            terms.append(maker.checked())
        found.extend(terms[:many])
    return found
