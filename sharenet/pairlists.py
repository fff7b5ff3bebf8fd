"""Ascending lists of active pairs, in which a pair is found by halving."""


def add_pair(pairs, pair):
    """Put a pair at its place in an ascending list, if it does not stand there yet."""
    at = _place_of(pairs, pair)
    if pairs[at:at + 1] != [pair]:
        pairs.insert(at, pair)


def take_pair(pairs, pair):
    """Remove a pair from an ascending list in which it stands."""
    del pairs[_place_of(pairs, pair)]


def _place_of(pairs, pair):
    """Return the index of a pair in an ascending list, or where it would have to be put."""
    low = 0
    high = len(pairs)
    while low < high:
        middle = (low + high) // 2
        if pairs[middle] < pair:
            low = middle + 1
        else:
            high = middle
    return low
