"""Labels: sequences of marks, which may be very long, as numbers.

Equal labels have equal numbers, and joining two labels takes little time even if they have far more marks than could
be written down. The items of a label are grouped step by step until one item is left, whose number is that of the
label. Odd steps put equal neighbours into one group; even steps put some neighbours that differ into a group of two.
What is put into a group depends on the neighbours alone. So when two labels are joined, the groups inside each of them
remain, and only those near the place where they meet are made anew.
"""

_FACTOR = 11400714819323198485
_STEP_FACTOR = 13787848793156543929
_BITS = 2 ** 64


class Labels:
    """The labels that occur in a reduction.

    An item is a tuple of the number of a mark or group, and how often it stands there in a row. The content of a
    number is the mark, or the tuple of the items of the group. Its step is the one that makes the group, or 0.
    """

    def __init__(self):
        self.numbers = {}
        self.contents = []
        self.steps = []
        self.known = {}

    def of_marks(self, marks):
        """Return the label with a tuple of marks."""
        if marks not in self.known:
            self.known[marks] = self.grouped([], [(self.numbered(mark, 0), 1) for mark in marks], [])
        return self.known[marks]

    def joined(self, first, sort, label, second):
        """Return the label of a label, the mark sort(label) and another label."""
        key = (first, sort, label, second)
        if key not in self.known:
            mark = self.numbered((sort, label), 0)
            self.known[key] = self.grouped([(first, 1)], [(mark, 1)], [(second, 1)])
        return self.known[key]

    def numbered(self, content, step):
        """Return the number of a mark or group."""
        if content not in self.numbers:
            self.numbers[content] = len(self.contents)
            self.contents.append(content)
            self.steps.append(step)
        return self.numbers[content]

    def grouped(self, before, middle, behind):
        """Return the number of a whole sequence, whose items before and behind are stacks with the next one on top."""
        step = 0
        while before or behind or len(middle) > 1:
            front = self.take_group(before, step, False)
            back = self.take_group(behind, step, True)
            step += 1
            items = front + middle + back[::-1]
            middle = self.rows_grouped(items, step) if step & 1 else self.pairs_grouped(items, step)
        return middle[0][0]

    def take_group(self, stack, step, backward):
        """Take the topmost group of the next step from a stack and return its items at this step, the topmost last.

        It must be made anew, because its neighbour is another one now. The stack may hold the items backward.
        """
        while stack:
            number, many = stack.pop()
            if self.steps[number] <= step:
                return [(number, many)]
            if many > 1:
                stack.append((number, many - 1))
            items = self.contents[number][::-1] if backward else self.contents[number]
            if self.steps[number] == step + 1:
                return list(items)
            stack.extend(items)
        return []

    def rows_grouped(self, items, step):
        """Return items in which equal neighbours are one group."""
        rows = []
        for number, many in items:
            if rows and rows[-1][0] == number:
                many += rows.pop()[1]
            rows.append((number, many))
        return [(self.numbered((row,), step), 1) if row[1] > 1 else row for row in rows]

    def pairs_grouped(self, items, step):
        """Return items in which some neighbours are one group."""
        out = []
        at = 0
        while at < len(items):
            pair = tuple(items[at:at + 2])
            if len(pair) == 2 and _is_first(pair[0][0], step) and not _is_first(pair[1][0], step):
                out.append((self.numbered(pair, step), 1))
                at += 2
            else:
                out.append(items[at])
                at += 1
        return out


def _is_first(number, step):
    """Return True if a group may be the first one of two at a step; it is so for half of them, without a pattern."""
    mixed = (number * _FACTOR + step * _STEP_FACTOR) % _BITS
    mixed = (mixed ^ (mixed >> 29)) * _FACTOR % _BITS
    return mixed >> 63 == 1


class NoLabels:
    """What takes the place of labels in a reduction without them."""

    def joined(self, first, sort, label, second):
        """Return no label."""
        return None
