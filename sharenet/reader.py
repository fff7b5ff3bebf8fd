"""Reading kinds, terms and programs from their texts.

The functions that call one another do so only inside a parenthesis or the part of a `let`, of which a cursor
allows few. Everything else that may be deep is read by loops.
"""

from sharenet.cursor import Cursor
from sharenet.errors import DuplicateName, InvalidText
from sharenet.kinds import INT, bang_kind, fun_kind, pair_kind
from sharenet.terms import is_name
from sharenet.tokens import is_number


def read_kind(text):
    """Return the kind of a text."""
    cursor = Cursor(text)
    kind = _kind_at(cursor)
    cursor.need_end()
    return kind


def read_term(text):
    """Return the term of a text."""
    cursor = Cursor(text)
    term = _term_at(cursor)
    cursor.need_end()
    return term


def read_program(text):
    """Return the program of a text, a list of definitions."""
    cursor = Cursor(text)
    program = []
    while cursor.ahead() != "":
        program.append(_definition_at(cursor))
    _refuse_duplicates(program)
    return program


def _definition_at(cursor):
    cursor.need("def")
    name = cursor.needed_name()
    cursor.need(":")
    kind = _kind_at(cursor)
    cursor.need("=")
    term = _term_at(cursor)
    cursor.need(";")
    return (name, kind, term)


def _refuse_duplicates(program):
    """Raise DuplicateName for the first definition whose name an earlier one has."""
    earlier = set()
    for name, _, _ in program:
        if name in earlier:
            raise DuplicateName(name)
        earlier.add(name)


def _kind_at(cursor):
    """Read a kind: tight kinds with arrows between them."""
    kinds = [_tight_kind_at(cursor)]
    while cursor.ahead() == "->":
        cursor.need("->")
        kinds.append(_tight_kind_at(cursor))
    kind = kinds.pop()
    while kinds:
        kind = fun_kind(kinds.pop(), kind)
    return kind


def _tight_kind_at(cursor):
    """Read a kind without a bare arrow."""
    boxes = _exclamations_at(cursor)
    kind = _innermost_kind_at(cursor)
    for _ in range(boxes):
        kind = bang_kind(kind)
    return kind


def _innermost_kind_at(cursor):
    """Read Int or a kind in parentheses."""
    if cursor.ahead() == "Int":
        cursor.need("Int")
        return INT
    cursor.need("(")
    kind = _kind_at(cursor)
    if cursor.ahead() == ",":
        cursor.need(",")
        kind = pair_kind(kind, _kind_at(cursor))
    cursor.need(")")
    return kind


def _exclamations_at(cursor):
    """Read any number of `!` and return how many they are."""
    many = 0
    while cursor.ahead() == "!":
        cursor.need("!")
        many += 1
    return many


def _term_at(cursor):
    """Read a term of any line."""
    heads = []
    while cursor.ahead() in ("\\", "let"):
        heads.append(_head_at(cursor))
    term = _sum_at(cursor)
    for head in reversed(heads):
        term = head + (term,)
    return term


def _head_at(cursor):
    """Read a function or `let` up to its last part, and return it without that part."""
    if cursor.taken() == "\\":
        name = cursor.needed_name()
        cursor.need(":")
        kind = _kind_at(cursor)
        cursor.need(".")
        return ("lam", name, kind)
    names = _let_names_at(cursor)
    cursor.need("=")
    part = _term_at(cursor)
    cursor.need("in")
    form = "let" if len(names) == 1 else "split"
    return (form, *names, part)


def _let_names_at(cursor):
    """Read the one name or the two different names between `let` and `=`."""
    if cursor.ahead() != "(":
        return [cursor.needed_name()]
    cursor.need("(")
    first = cursor.needed_name()
    cursor.need(",")
    second = cursor.needed_name()
    cursor.need(")")
    if first == second:
        raise InvalidText(f"both parts of a pair would be called {first}")
    return [first, second]


def _sum_at(cursor):
    """Read a term of the line of `+` and `-`, or of a tighter one."""
    term = _product_at(cursor)
    while cursor.ahead() in ("+", "-"):
        sign = cursor.taken()
        term = ("op", sign, term, _product_at(cursor))
    return term


def _product_at(cursor):
    """Read a term of the line of `*`, or of a tighter one."""
    term = _application_at(cursor)
    while cursor.ahead() == "*":
        sign = cursor.taken()
        term = ("op", sign, term, _application_at(cursor))
    return term


def _application_at(cursor):
    """Read a term of the line of applications, or of a tighter one."""
    term = _box_at(cursor)
    while _begins_box(cursor.ahead()):
        term = ("app", term, _box_at(cursor))
    return term


def _begins_box(token):
    """Return True if a token can be the first one of a box or of a term of the tightest line."""
    return token in ("!", "(") or is_name(token) or is_number(token)


def _box_at(cursor):
    """Read a box or a term of the tightest line."""
    boxes = _exclamations_at(cursor)
    term = _innermost_term_at(cursor)
    for _ in range(boxes):
        term = ("box", term)
    return term


def _innermost_term_at(cursor):
    """Read a name, a number or a term in parentheses."""
    if is_number(cursor.ahead()):
        return ("num", int(cursor.taken()))
    if cursor.ahead() != "(":
        return ("var", cursor.needed_name())
    cursor.need("(")
    term = _term_at(cursor)
    if cursor.ahead() == ",":
        cursor.need(",")
        term = ("pair", term, _term_at(cursor))
    cursor.need(")")
    return term
