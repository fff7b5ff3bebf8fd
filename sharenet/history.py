"""Histories, which go back and forward by interactions."""

from sharenet.rules import interact


class History:
    """A history that begins with a copy of a net; `steps` has what each interaction so far has taken away."""

    def __init__(self, net):
        self.net = net.copied()
        self.steps = []

    def forward(self, choice):
        """Let a pair interact and return the name of the rule, or return None if the net is finished."""
        pairs = self.net.pairs()
        if not pairs:
            return None
        pair = pairs[choice % len(pairs)]
        before = self.net.around_pair(pair)
        rule = interact(self.net, pair)
        self.steps.append(before)
        return rule

    def back(self):
        """Take the last interaction back and return True, or return False if there is none."""
        if not self.steps:
            return False
        self.net.bring_back(self.steps.pop())
        return True

    def present_net(self):
        """Return a copy of the present net."""
        return self.net.copied()

    def __len__(self):
        return len(self.steps)
