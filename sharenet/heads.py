"""Core terms as lists of heads, which serve where a core term is too deep for calls inside calls.

The head of a node is its core term without its parts. A list of heads has a tuple of a head, its number of parts
and its label for each node, every node before its parts.
"""

# The parts of a core term are its last items; this is where they begin.
_FIRST_PART = {"var": 2, "num": 2, "op": 2, "lam": 1, "app": 1, "pair": 1, "fst": 1, "snd": 1}


def core_parts(core):
    """Return the list of the parts of a core term."""
    return list(core[_FIRST_PART[core[0]]:])


def core_with_parts(core, parts):
    """Return a core term with the same head, but with other parts."""
    return core[:_FIRST_PART[core[0]]] + tuple(parts)


def heads_of(core):
    """Return the list of the heads of a core term, which have no labels."""
    heads = []
    waiting = [core]
    while waiting:
        node = waiting.pop()
        parts = core_parts(node)
        heads.append((core_with_parts(node, []), len(parts), None))
        waiting.extend(parts[::-1])
    return heads


def joined_heads(heads, made):
    """Return what made(head, parts, label) makes of the root, where it also makes the parts of every node."""
    done = []
    for head, many, label in reversed(heads):
        start = len(done) - many
        parts = done[start:]
        del done[start:]
        done.append(made(head, parts[::-1], label))
    return done.pop()


def nested_from(heads):
    """Return the core term with a list of heads, or a term or a kind, if the heads are of that sort."""
    return joined_heads(heads, _nested)


def _nested(head, parts, label):
    return head + tuple(parts)


def same_core(first, second):
    """Return True if two core terms are equal; they may be too deep for Python's own comparison."""
    waiting = [(first, second)]
    while waiting:
        one, other = waiting.pop()
        if core_with_parts(one, []) != core_with_parts(other, []):
            return False
        waiting.extend(list(zip(core_parts(one), core_parts(other))))
    return True
