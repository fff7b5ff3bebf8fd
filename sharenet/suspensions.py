"""Suspensions: parts of a term whose values are computed when they are first asked for, and then kept.

A value is a tuple: ("num", n); ("lam", name, body, meanings); ("pair", first, second) with two suspensions; or it is
stuck: ("var", k), where k is the number of the functions that are read off around the one with the variable;
("app", value, suspension), ("op", sign, value, value), ("fst", value) or ("snd", value).
"""

from sharenet.arithmetic import result_of
from sharenet.errors import TooLong


class Suspension:
    """A term with the meanings of its free names, and its value, which is None until it is known.

    Besides the forms of terms, a suspended term may be ("fst", t) or ("snd", t).
    """

    def __init__(self, term, meanings):
        self.term = term
        self.meanings = meanings
        self.value = None

    def keep_value(self, value):
        """Keep the value in the place of the term."""
        self.value = value
        self.term = None
        self.meanings = None


def known_value(value):
    """Return a suspension whose value is known."""
    suspension = Suspension(None, None)
    suspension.keep_value(value)
    return suspension


class NeedMachine:
    """What computes values and counts the steps.

    There is either a term whose value is computed next, with the meanings of its names, or a value. The value goes to
    the topmost frame, which says what it was computed for. Terms may be deeper than Python's calls may be nested.
    """

    def __init__(self, most):
        self.most = most
        self.steps = 0
        self.term = None
        self.meanings = {}
        self.value = None
        self.frames = []

    def value_of(self, suspension):
        """Return the value of a suspension."""
        self.ask_for(suspension)
        # As long as there is a term, a frame waits for its value.
        while self.frames:
            if self.term is None:
                self.pass_value(self.frames.pop())
            elif self.term[0] in ("num", "lam", "pair"):
                self.make_value()
            elif self.term[0] in ("var", "box", "let", "split"):
                self.go_inside()
            else:
                self.compute_part()
        return self.value

    def ask_for(self, suspension):
        """Go on with the value of a suspension, or with its term."""
        self.term = suspension.term
        self.meanings = suspension.meanings
        self.value = suspension.value
        if self.term is not None:
            self.frames.append(("keep", suspension))

    def give_value(self, value):
        """Go on with a value."""
        self.term = None
        self.value = value

    def make_value(self):
        """Go on with the value of a number, a function or a pair."""
        form = self.term[0]
        if form == "num":
            self.give_value(self.term)
        elif form == "lam":
            self.give_value(("lam", self.term[1], self.term[3], self.meanings))
        else:
            first, second = [Suspension(part, self.meanings) for part in self.term[1:]]
            self.give_value(("pair", first, second))

    def go_inside(self):
        """Go on with what has the same value as the term."""
        form = self.term[0]
        if form == "var":
            self.ask_for(self.meanings[self.term[1]])
        elif form == "box":
            self.term = self.term[1]
        elif form == "let":
            held = Suspension(self.term[2], self.meanings)
            self.meanings = {**self.meanings, self.term[1]: held}
            self.term = self.term[3]
        else:
            _, first, second, part, body = self.term
            held = Suspension(part, self.meanings)
            one = Suspension(("fst", ("var", first)), {first: held})
            other = Suspension(("snd", ("var", second)), {second: held})
            self.meanings = {**self.meanings, first: one, second: other}
            self.term = body

    def compute_part(self):
        """Go on with the part of the term whose value must be known first."""
        form = self.term[0]
        if form == "app":
            self.frames.append(("app", Suspension(self.term[2], self.meanings)))
            self.term = self.term[1]
        elif form == "op":
            self.frames.append(("second", self.term[1], self.term[3], self.meanings))
            self.term = self.term[2]
        else:
            self.frames.append((form,))
            self.term = self.term[1]

    def pass_value(self, frame):
        """Go on with what a value was computed for."""
        if frame[0] == "keep":
            frame[1].keep_value(self.value)
        elif frame[0] == "app":
            self.apply_value(frame[1])
        elif frame[0] == "second":
            _, sign, self.term, self.meanings = frame
            self.frames.append(("op", sign, self.value))
        elif frame[0] == "op":
            self.operate_on(frame[1], frame[2])
        elif self.value[0] == "pair":
            self.ask_for(self.value[1] if frame[0] == "fst" else self.value[2])
        else:
            self.give_value((frame[0], self.value))

    def apply_value(self, argument):
        """Apply the value, a function or a stuck value, to an argument."""
        if self.value[0] != "lam":
            self.give_value(("app", self.value, argument))
            return
        if self.steps >= self.most:
            raise TooLong(f"more than {self.most} steps are needed")
        self.steps += 1
        _, name, body, meanings = self.value
        self.meanings = {**meanings, name: argument}
        self.term = body

    def operate_on(self, sign, first):
        """Operate on a first operand and the value as the second one."""
        if first[0] == "num" and self.value[0] == "num":
            self.give_value(("num", result_of(sign, first[1], self.value[1])))
        else:
            self.give_value(("op", sign, first, self.value))
