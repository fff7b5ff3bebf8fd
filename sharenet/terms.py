"""Names, and terms with their parts, sizes and free names."""

LOWER_LETTERS = "abcdefghijklmnopqrstuvwxyz"
DIGITS = "0123456789"
RESERVED_WORDS = ("let", "in", "def")

_LONGEST_NAME = 8

# The terms inside a term are its last items; this is where they begin.
_FIRST_PART = {"var": 2, "num": 2, "op": 2, "lam": 3, "app": 1, "box": 1, "let": 2, "pair": 1, "split": 3}

# How many names a term binds in its last part; they stand directly behind its form.
_NAMES_BOUND = {"lam": 1, "let": 1, "split": 2}


def is_name(text):
    """Return True if a string is a name, otherwise False."""
    if text in RESERVED_WORDS or not 1 <= len(text) <= _LONGEST_NAME:
        return False
    if text[0] not in LOWER_LETTERS:
        return False
    return all([sign in LOWER_LETTERS or sign in DIGITS for sign in text])


def parts_of(term):
    """Return the list of the terms directly inside a term, from left to right."""
    return list(term[_FIRST_PART[term[0]]:])


def with_parts(term, parts):
    """Return a term of the same form and with the same names, but with other parts."""
    return term[:_FIRST_PART[term[0]]] + tuple(parts)


def bound_names(term):
    """Return the list of the names that a term binds in its last part."""
    return list(term[1:1 + _NAMES_BOUND.get(term[0], 0)])


def with_names(term, names):
    """Return a term in which other names stand directly behind its form: those that it binds, or that of a variable."""
    return term[:1] + tuple(names) + term[1 + len(names):]


def size_of(term):
    """Return the number of the nodes of a term."""
    size = 0
    waiting = [term]
    while waiting:
        size += 1
        waiting.extend(parts_of(waiting.pop()))
    return size


def depth_of(term):
    """Return the greatest number of nodes on a way down from the root of a term."""
    depth = 0
    row = [term]
    while row:
        depth += 1
        row = [part for node in row for part in parts_of(node)]
    return depth


def free_names(term):
    """Return the list of the names with free occurrences, in the order of their first ones."""
    found = {}
    waiting = [(term, {})]
    while waiting:
        node, bound = waiting.pop()
        if node[0] == "var" and node[1] not in bound:
            found[node[1]] = True
        waiting.extend(_scoped_parts(node, bound)[::-1])
    return list(found)


def _scoped_parts(node, bound):
    """Return the list of the parts of a node, each with the dict of the names that are bound around it."""
    parts = parts_of(node)
    names = bound_names(node)
    if not names:
        return [(part, bound) for part in parts]
    inner = dict(bound)
    for name in names:
        inner[name] = True
    return [(part, bound) for part in parts[:-1]] + [(parts[-1], inner)]
