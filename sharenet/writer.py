"""Writing terms and programs."""

from sharenet.kinds import kind_text
from sharenet.texts import decimal, written

# The lines of the term text are numbered from the loosest one, 0, to the tightest one, 5.
_LINE_OF_FORM = {"lam": 0, "let": 0, "split": 0, "app": 3, "box": 4, "var": 5, "num": 5, "pair": 5}
_LINE_OF_SIGN = {"+": 1, "-": 1, "*": 2}


def write_term(term):
    """Return the text of a term with as few parentheses as possible."""
    return written((term, 0), _pieces)


def write_program(program):
    """Return a line for each definition of a program."""
    return "".join([_definition_line(name, kind, term) for name, kind, term in program])


def _definition_line(name, kind, term):
    return f"def {name} : {kind_text(kind)} = {write_term(term)};\n"


def _line_of(term):
    """Return the number of the line that a term belongs to."""
    return _LINE_OF_SIGN[term[1]] if term[0] == "op" else _LINE_OF_FORM[term[0]]


def _pieces(item):
    """Return the pieces of the text of a term that stands where no looser line than a certain one may."""
    term, loosest = item
    pieces = _binder_pieces(term) if _line_of(term) == 0 else _plain_pieces(term)
    return pieces if _line_of(term) >= loosest else ["(", *pieces, ")"]


def _binder_pieces(term):
    """Return the pieces of the text of a function or `let`, without parentheses around it."""
    if term[0] == "lam":
        return ["\\", term[1], ":", kind_text(term[2]), ". ", (term[3], 0)]
    if term[0] == "let":
        return ["let ", term[1], " = ", (term[2], 0), " in ", (term[3], 0)]
    return ["let (", term[1], ", ", term[2], ") = ", (term[3], 0), " in ", (term[4], 0)]


def _plain_pieces(term):
    """Return the pieces of the text of a term that binds nothing, without parentheses around it."""
    form = term[0]
    line = _line_of(term)
    if form == "var":
        return [term[1]]
    if form == "num":
        return [decimal(term[1])]
    if form == "op":
        return [(term[2], line), f" {term[1]} ", (term[3], line + 1)]
    if form == "app":
        return [(term[1], line), " ", (term[2], line + 1)]
    if form == "box":
        return ["!", (term[1], line)]
    return ["(", (term[1], 0), ", ", (term[2], 0), ")"]
