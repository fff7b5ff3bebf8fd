"""Workers that reduce one net together."""

from sharenet.choosing import choice_at
from sharenet.errors import TooLong
from sharenet.rules import interact
from sharenet.running import rule_counts


class Crew:
    """A crew for a copy of a net.

    `lists` has the list of active pairs of each worker, and `interactions` the number of the interactions of each one.
    """

    def __init__(self, net, *, workers):
        self.net = net.copied()
        self.lists = [[] for _ in range(workers)]
        self.interactions = [0] * workers
        for number, pair in enumerate(net.pairs()):
            self.lists[number % workers].append(pair)

    def turn(self, worker):
        """Execute a turn of a worker, and return the name of the rule, or None if the worker rests."""
        source = self.source_for(worker)
        if source is None:
            return None
        owner, at = source
        known = {pair: True for pair in self.net.pairs()}
        rule = interact(self.net, self.lists[owner][at])
        # A pair without a rule stays in its list.
        del self.lists[owner][at]
        self.finish_interaction(worker, known)
        return rule

    def tick(self):
        """Let all workers work at the same time, and return the number of interactions."""
        taken = []
        workers = len(self.lists)
        for worker in range(workers):
            source = self.source_for(worker)
            if source is not None:
                owner, at = source
                taken.append((worker, self.lists[owner].pop(at)))
        for worker, pair in taken:
            known = {old: True for old in self.net.pairs()}
            interact(self.net, pair)
            self.finish_interaction(worker, known)
        return len(taken)

    def queues(self):
        """Return the list of the lists of pairs of the workers."""
        return [list(pairs) for pairs in self.lists]

    def run(self, *, turns=(), most=10000):
        """Execute turns until all lists are empty, and return the numbers of interactions by the rules."""
        rules = []
        while any([len(pairs) > 0 for pairs in self.lists]):
            if len(rules) >= most:
                raise TooLong(f"there are still pairs after {most} interactions")
            rules.append(self.turn(self.worker_at(turns, len(rules))))
        return rule_counts(rules)

    def shares(self):
        """Return the list of the numbers of interactions of the workers so far."""
        return list(self.interactions)

    def present_net(self):
        """Return a copy of the net as it is now."""
        return self.net.copied()

    def source_for(self, worker):
        """Return the worker whose list has the next pair for a worker, and its index there, or None to rest."""
        if self.lists[worker]:
            return (worker, len(self.lists[worker]) - 1)
        lengths = [len(pairs) for pairs in self.lists]
        longest = max(lengths)
        return None if longest == 0 else (lengths.index(longest), 0)

    def finish_interaction(self, worker, known):
        """Note an interaction of a worker, who gets the active pairs that were not active before it."""
        self.interactions[worker] += 1
        self.lists[worker].extend([pair for pair in self.net.pairs() if pair not in known])

    def worker_at(self, turns, number):
        """Return the worker whose turn is the one with a number."""
        if number < len(turns):
            return turns[number] % len(self.lists)
        return [len(pairs) > 0 for pairs in self.lists].index(True)
