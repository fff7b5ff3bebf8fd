"""Writing nested things and numbers of any size."""

# Python refuses to write very long numbers at once, so they are cut into chunks.
_CHUNK_DIGITS = 64
_CHUNK = 10 ** 64


def written(item, pieces_of):
    """Return the text of an item, without recursion, because items may be deep.

    pieces_of(item) returns the list of the pieces of an item: strings, and further items.
    """
    texts = []
    waiting = [item]
    while waiting:
        piece = waiting.pop()
        if isinstance(piece, str):
            texts.append(piece)
        else:
            waiting.extend(pieces_of(piece)[::-1])
    return "".join(texts)


def decimal(number):
    """Return the decimal form of an integer of any size."""
    rest = abs(number)
    chunks = []
    while rest >= _CHUNK:
        rest, chunk = divmod(rest, _CHUNK)
        chunks.append(str(chunk).zfill(_CHUNK_DIGITS))
    chunks.append(str(rest))
    if number < 0:
        chunks.append("-")
    return "".join(chunks[::-1])
