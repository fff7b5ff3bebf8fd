"""Unknown kinds, which are found by making them equal."""


class Unknowns:
    """Numbers for kinds that are partly unknown.

    Equal kinds belong to one class, which is known by the number that `leaders` gives from each number on, step by
    step. The shape of a class is None for an unknown kind, or a tuple like a kind, with numbers for its parts.
    """

    def __init__(self):
        self.leaders = []
        self.shapes = []

    def new_kind(self, shape):
        """Return a new number for a kind with a shape."""
        self.leaders.append(len(self.leaders))
        self.shapes.append(shape)
        return len(self.leaders) - 1

    def for_kind(self, kind):
        """Return a new number for a kind that is known."""
        number = self.new_kind(None)
        waiting = [(number, kind)]
        while waiting:
            at, here = waiting.pop()
            parts = [(self.new_kind(None), part) for part in here[1:]]
            self.shapes[at] = here[:1] + tuple([part for part, _ in parts])
            waiting.extend(parts)
        return number

    def leader(self, number):
        """Return the number by which the class of a number is known."""
        at = number
        while self.leaders[at] != at:
            # Shorter ways make the next search faster.
            self.leaders[at] = self.leaders[self.leaders[at]]
            at = self.leaders[at]
        return at

    def made_equal(self, first, second):
        """Make two kinds equal and return True, or return False if they cannot be equal."""
        waiting = [(first, second)]
        while waiting:
            one, other = waiting.pop()
            one = self.leader(one)
            other = self.leader(other)
            if one == other:
                continue
            shape, other_shape = self.shapes[one], self.shapes[other]
            if shape is not None and other_shape is not None:
                if shape[0] != other_shape[0]:
                    return False
                waiting.extend(list(zip(shape[1:], other_shape[1:])))
            self.leaders[other] = one
            self.shapes[one] = other_shape if shape is None else shape
        return True

    def are_finite(self):
        """Return True if no kind would have to contain itself."""
        uses = {}
        for number in range(len(self.leaders)):
            for part in self.parts_of_class(number):
                uses[part] = uses.get(part, 0) + 1
        leaders = [number for number in range(len(self.leaders)) if self.leaders[number] == number]
        # Classes are taken away when no kind contains them any more; those of a circle always remain.
        waiting = [number for number in leaders if number not in uses]
        taken = 0
        while waiting:
            taken += 1
            for part in self.parts_of_class(waiting.pop()):
                uses[part] -= 1
                if uses[part] == 0:
                    waiting.append(part)
        return taken == len(leaders)

    def parts_of_class(self, number):
        """Return the list of the classes of the parts of a kind; only the number that leads a class has parts."""
        if self.leaders[number] != number or self.shapes[number] is None:
            return []
        return [self.leader(part) for part in self.shapes[number][1:]]
