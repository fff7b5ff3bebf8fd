"""Reducing a term redex by redex."""

from sharenet.contracting import contracted
from sharenet.nodes import with_part


class Reduction:
    """A term that is being reduced: a node in view, and what is around it.

    Only the node in view is kept up to date, because the next redex is often near, and to make all nodes around it
    anew for each contraction would be slow. `before` is the number of the redexes around the node and before it, and
    `outside` the number of all redexes that are not in it.
    """

    def __init__(self, node, labels):
        self.node = node
        self.around = []
        self.before = 0
        self.outside = 0
        self.labels = labels

    def view(self, choice):
        """View the redex with an index modulo the number of redexes and return True, or False if there are none."""
        many = self.outside + self.node.redexes
        if many == 0:
            return False
        index = choice % many
        while not self.before <= index < self.before + self.node.redexes:
            self.go_out()
        while index > self.before or not self.node.is_redex:
            self.go_towards(index)
        return True

    def contract_here(self):
        """Contract the redex in view, and view the node around it, which may have become a redex."""
        self.node = contracted(self.node, self.labels)
        if self.around:
            self.go_out()

    def whole(self):
        """View the whole term and return it."""
        while self.around:
            self.go_out()
        return self.node

    def go_towards(self, index):
        """View the part in which the redex with an index is."""
        outer = self.node
        before = self.before + (1 if outer.is_redex else 0)
        number = 0
        while index >= before + outer.parts[number].redexes:
            before += outer.parts[number].redexes
            number += 1
        self.around.append((outer, number, self.before, self.outside))
        self.node = outer.parts[number]
        self.before = before
        self.outside += outer.redexes - self.node.redexes

    def go_out(self):
        """View the node around the one in view."""
        outer, number, self.before, self.outside = self.around.pop()
        self.node = with_part(outer, number, self.node)
