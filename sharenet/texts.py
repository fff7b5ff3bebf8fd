"""Writing nested things, and writing and reading numbers of any size."""

from sharenet.terms import DIGITS

# Python refuses to write and to read very long numbers at once, so they are cut into chunks.
_CHUNK_DIGITS = 64
_CHUNK = 10 ** 64


def written(item, pieces_of):
    """Return the text of an item, without recursion, because items may be deep.

    pieces_of(item) returns the list of the pieces of an item: strings, and further items.
    """
    texts = []
    waiting = [item]
    while waiting:
        piece = waiting.pop()
        if isinstance(piece, str):
            texts.append(piece)
        else:
            waiting.extend(pieces_of(piece)[::-1])
    return "".join(texts)


def decimal(number):
    """Return the decimal form of an integer of any size."""
    rest = abs(number)
    chunks = []
    while rest >= _CHUNK:
        rest, chunk = divmod(rest, _CHUNK)
        chunks.append(str(chunk).zfill(_CHUNK_DIGITS))
    chunks.append(str(rest))
    if number < 0:
        chunks.append("-")
    return "".join(chunks[::-1])


def integer_from(text):
    """Return the integer with a decimal form, which may begin with zeros, or None if the text is not of this form."""
    digits = text[1:] if text[:1] == "-" else text
    if digits == "" or not all([sign in DIGITS for sign in digits]):
        return None
    at = len(digits) % _CHUNK_DIGITS
    number = int("0" + digits[:at])
    while at < len(digits):
        number = number * _CHUNK + int(digits[at:at + _CHUNK_DIGITS])
        at += _CHUNK_DIGITS
    return number if digits == text else -number
