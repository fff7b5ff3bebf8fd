"""All texts of a few tokens with the terms or kinds that they have by points 6 and 7, made from the lines."""

INT = ("int",)
LAM = "\\x:Int."
LET = "let x ="
SPLIT = "let (x, y) ="
TERM_TOKENS = ["x", "1", "+", "*", "!", "(", ")", ",", LAM, LET, "in"]
KIND_TOKENS = ["Int", "->", "!", "(", ")", ","]


class Texts:
    """For each line, and for each number of tokens, a dict from tuples of tokens to what they mean."""

    def __init__(self):
        self.known = {}

    def of(self, line, count):
        if (line, count) not in self.known:
            found = {}
            for tokens, meaning in getattr(self, line)(count):
                assert tokens not in found, tokens
                found[tokens] = meaning
            self.known[line, count] = found
        return self.known[line, count].items()

    def two(self, first, second, count):
        """The texts of two lines that have so many tokens together, with what they mean."""
        for left in range(1, count):
            for one, a in self.of(first, left):
                for other, b in self.of(second, count - left):
                    yield one, a, other, b


class TermTexts(Texts):
    def loosest(self, count):
        yield from self.of("sums", count)
        for tokens, body in self.of("loosest", count - 1) if count > 1 else ():
            yield (LAM, *tokens), ("lam", "x", INT, body)
        for part, t, last, u in self.two("loosest", "loosest", count - 2):
            yield (LET, *part, "in", *last), ("let", "x", t, u)
            yield (SPLIT, *part, "in", *last), ("split", "x", "y", t, u)

    def sums(self, count):
        yield from self.of("products", count)
        for left, t, right, u in self.two("sums", "products", count - 1):
            for sign in "+-":
                yield (*left, sign, *right), ("op", sign, t, u)

    def products(self, count):
        yield from self.of("applications", count)
        for left, t, right, u in self.two("products", "applications", count - 1):
            yield (*left, "*", *right), ("op", "*", t, u)

    def applications(self, count):
        yield from self.of("boxes", count)
        for left, t, right, u in self.two("applications", "boxes", count):
            yield (*left, *right), ("app", t, u)

    def boxes(self, count):
        yield from self.of("tightest", count)
        for tokens, held in self.of("boxes", count - 1) if count > 1 else ():
            yield ("!", *tokens), ("box", held)

    def tightest(self, count):
        if count == 1:
            yield ("x",), ("var", "x")
            yield ("1",), ("num", 1)
        for tokens, t in self.of("loosest", count - 2) if count > 2 else ():
            yield ("(", *tokens, ")"), t
        for left, t, right, u in self.two("loosest", "loosest", count - 3):
            yield ("(", *left, ",", *right, ")"), ("pair", t, u)


class KindTexts(Texts):
    def loosest(self, count):
        yield from self.of("tight", count)
        for left, a, right, b in self.two("tight", "loosest", count - 1):
            yield (*left, "->", *right), ("fun", a, b)

    def tight(self, count):
        if count == 1:
            yield ("Int",), INT
        for tokens, held in self.of("tight", count - 1) if count > 1 else ():
            yield ("!", *tokens), ("bang", held)
        for tokens, a in self.of("loosest", count - 2) if count > 2 else ():
            yield ("(", *tokens, ")"), a
        for left, a, right, b in self.two("loosest", "loosest", count - 3):
            yield ("(", *left, ",", *right, ")"), ("pair", a, b)
