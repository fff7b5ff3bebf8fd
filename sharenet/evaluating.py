"""Evaluating programs."""

from sharenet.building import net_of
from sharenet.checking import check_program
from sharenet.linking import linked
from sharenet.readback import read_back
from sharenet.reader import read_program
from sharenet.running import run_net
from sharenet.simplifying import simplified


class Evaluator:
    """What evaluates programs, and simplifies them if `simple` is True.

    `counts` is the tuple of the numbers of interactions by the rules in the last evaluation that ended without an
    error, and `busy` is True during an evaluation.
    """

    def __init__(self, *, most=10000, simple=False):
        self.most = most
        self.simple = simple
        self.counts = None
        self.busy = False

    def run_text(self, text):
        """Evaluate the program of a text and return the core term."""
        self.busy = True
        try:
            return self.result_of(text)
        finally:
            self.busy = False

    def result_of(self, text):
        """Evaluate the program of a text, keep the numbers of interactions and return the core term."""
        program = read_program(text)
        check_program(program)
        term = linked(program, "main")
        net = net_of(simplified(term) if self.simple else term)
        counts = run_net(net, most=self.most)
        core = read_back(net)
        self.counts = counts
        return core
