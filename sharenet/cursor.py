"""A place in the tokens of a text that is being read."""

from sharenet.errors import InvalidText, TooLarge
from sharenet.terms import is_name
from sharenet.tokens import divided_tokens

_MOST_BEGUN = 60


class Cursor:
    """The tokens of a text, and how many of them have been read."""

    def __init__(self, text):
        tokens, divided = divided_tokens(text)
        # A text that begins too much is too large even if it is broken behind that place.
        _refuse_deep(tokens)
        if not divided:
            raise InvalidText(f"there is no token behind {len(tokens)} tokens")
        self.tokens = tokens
        self.at = 0

    def ahead(self):
        """Return the next token, or the empty string at the end."""
        return self.tokens[self.at] if self.at < len(self.tokens) else ""

    def taken(self):
        """Return the next token, or the empty string at the end, and go on behind it."""
        token = self.ahead()
        self.at += 1
        return token

    def need(self, token):
        """Go on behind the next token, which must be the given one."""
        found = self.taken()
        if found != token:
            raise InvalidText(f"token {self.at} is {found!r} and should be {token!r}")

    def needed_name(self):
        """Return the next token, which must be a name, and go on behind it."""
        found = self.taken()
        if not is_name(found):
            raise InvalidText(f"token {self.at} is {found!r} and should be a name")
        return found

    def need_end(self):
        """Raise InvalidText if there are tokens left."""
        if self.at < len(self.tokens):
            raise InvalidText(f"there should be no more than {self.at} tokens")


def _refuse_deep(tokens):
    """Raise TooLarge if too much is begun and not ended at some token."""
    balance = 0
    for token in tokens:
        if token in ("(", "let"):
            balance += 1
        elif token in (")", "in"):
            balance -= 1
        if balance > _MOST_BEGUN:
            raise TooLarge(f"more than {_MOST_BEGUN} parentheses and let are begun and not ended")
