"""Linking: putting definitions into the places of their names."""

from sharenet.errors import UnknownName
from sharenet.terms import bound_names, free_names, with_parts
from sharenet.walking import walked


def linked(program, name):
    """Return the linked term of the definition with a name."""
    if name not in [definition[0] for definition in program]:
        raise UnknownName(name)
    _refuse_unknown(program)
    terms = {}
    for earlier, _, term in program:
        # A linked term has no free names, so nothing can capture one when it is put in.
        terms[earlier] = walked(term, terms, Linker())
        if earlier == name:
            break
    return terms[name]


def _refuse_unknown(program):
    """Raise UnknownName for the first free occurrence of a name that no earlier definition has."""
    earlier = set()
    for name, _, term in program:
        for used in free_names(term):
            if used not in earlier:
                raise UnknownName(used)
        earlier.add(name)


class Linker:
    """A visitor that replaces names by their meanings, which are terms."""

    def bound(self, node, part, level):
        """Let bound names mean themselves."""
        return [("var", name) for name in bound_names(node)]

    def used(self, meaning, level):
        """Put a meaning into the place of a name."""
        return meaning

    def made(self, node, level, meanings, parts):
        """Give a node its new parts."""
        return with_parts(node, parts)
