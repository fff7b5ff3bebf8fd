"""Numerals, which apply functions several times, and what is made of them."""

from sharenet.errors import TooLarge
from sharenet.kinds import INT, bang_kind, fun_kind, pair_kind

_MOST = 60


def numeral(count, kind):
    """Return the numeral of a count over a kind."""
    if not 1 <= count <= _MOST:
        raise TooLarge(f"numerals go from 1 to {_MOST}")
    body = ("var", "x")
    for _ in range(count):
        body = ("app", ("var", "g"), body)
    held = ("box", ("lam", "x", kind, body))
    return ("lam", "f", _steps_kind(kind), ("let", "g", ("var", "f"), held))


def numeral_sum(first, second, kind):
    """Return the sum of two closed terms for numerals."""
    both = ("app", ("var", "h"), ("app", ("var", "k"), ("var", "x")))
    held = ("box", ("lam", "x", kind, both))
    given = ("box", ("var", "g"))
    inner = ("let", "h", ("app", first, given), ("let", "k", ("app", second, given), held))
    return ("lam", "f", _steps_kind(kind), ("let", "g", ("var", "f"), inner))


def numeral_product(first, second, kind):
    """Return the product of two closed terms for numerals."""
    return ("lam", "f", _steps_kind(kind), ("app", first, ("app", second, ("var", "f"))))


def applied_numeral(term, function, argument):
    """Return the term that applies a function as often as a term for a numeral says, in a box."""
    result = ("box", ("app", ("var", "r"), argument))
    return ("let", "r", ("app", term, ("box", function)), result)


def fibonacci_term(count):
    """Return the term that makes a count of Fibonacci steps from the pair of 0 and 1."""
    start = ("pair", ("num", 0), ("num", 1))
    return applied_numeral(numeral(count, pair_kind(INT, INT)), _fibonacci_step(), start)


def _steps_kind(kind):
    """Return the kind of a box with a function from a kind to itself."""
    return bang_kind(fun_kind(kind, kind))


def _fibonacci_step():
    """Return the function from the pair of two numbers to the pair of the second one and of their sum."""
    result = ("pair", ("var", "c"), ("op", "+", ("var", "a"), ("var", "c")))
    body = ("split", "a", "b", ("var", "p"), ("let", "c", ("var", "b"), result))
    return ("lam", "p", pair_kind(INT, INT), body)
