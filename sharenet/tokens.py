"""Dividing a text into tokens."""

from sharenet.errors import InvalidText
from sharenet.terms import DIGITS, LOWER_LETTERS, RESERVED_WORDS, is_name

_UPPER_LETTERS = "ABCDEFGHIJKLMNOPQRSTUVWXYZ"
_BLANKS = " \n"
_SIGNS = "\\:.=+-*!();,"
_LONGEST_NUMBER = 9


def tokens_of(text):
    """Return the list of the tokens of a text."""
    tokens, divided = divided_tokens(text)
    if not divided:
        raise InvalidText(f"there is no token behind {len(tokens)} tokens")
    return tokens


def divided_tokens(text):
    """Return the list of the tokens before the first place that is no token, and if there is no such place."""
    tokens = []
    at = 0
    while at < len(text):
        if text[at] in _BLANKS:
            at += 1
            continue
        token = _token_at(text, at)
        if token == "":
            return tokens, False
        tokens.append(token)
        at += len(token)
    return tokens, True


def is_number(token):
    """Return True if a string is the text of a number, otherwise False."""
    if not 1 <= len(token) <= _LONGEST_NUMBER:
        return False
    if token[0] == "0" and len(token) > 1:
        return False
    return all([sign in DIGITS for sign in token])


def _token_at(text, at):
    """Return the longest token that begins at an index, or the empty string if there is none."""
    word = _word_at(text, at)
    if word != "":
        return word if _is_word(word) else ""
    if text[at:at + 2] == "->":
        return "->"
    return text[at] if text[at] in _SIGNS else ""


def _word_at(text, at):
    """Return the letters and digits from an index on."""
    end = at
    while end < len(text) and _is_letter_or_digit(text[end]):
        end += 1
    return text[at:end]


def _is_letter_or_digit(sign):
    return sign in LOWER_LETTERS or sign in DIGITS or sign in _UPPER_LETTERS


def _is_word(word):
    """Return True if a whole sequence of letters and digits is a token."""
    return word == "Int" or word in RESERVED_WORDS or is_name(word) or is_number(word)
