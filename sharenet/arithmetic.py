"""The results of operations."""


def result_of(sign, first, second):
    """Return the sum, the difference or the product of two integers."""
    if sign == "+":
        return first + second
    if sign == "-":
        return first - second
    return first * second
