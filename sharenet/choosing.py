"""Choices that a caller makes for the steps of a reduction."""


def choice_at(choices, step):
    """Return the choice that a list or tuple has for a step; without one, it is 0."""
    return choices[step] if step < len(choices) else 0
