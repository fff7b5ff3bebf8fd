"""Stacks that are kept while others grow out of them."""


class Stacks:
    """All stacks that occurred so far, as numbers: equal stacks have equal numbers, and 0 is the empty one."""

    def __init__(self):
        self.numbers = {}
        self.tops = [(0, 0)]

    def pushed(self, stack, top):
        """Return the stack with a new thing on top of it."""
        if (stack, top) not in self.numbers:
            self.numbers[(stack, top)] = len(self.tops)
            self.tops.append((stack, top))
        return self.numbers[(stack, top)]

    def popped(self, stack):
        """Return the stack below the top of a stack that is not empty, and the top."""
        return self.tops[stack]
