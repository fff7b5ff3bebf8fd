"""The errors that the program raises."""


class SharenetError(ValueError):
    """The base class of all errors that the program raises."""


class InvalidText(SharenetError):
    """A text is not of the form that is asked for."""


class TooLarge(SharenetError):
    """Something has more parts than there is room for."""


class KindMismatch(SharenetError):
    """A term has no kind, or another kind than the stated one."""


class LevelMismatch(SharenetError):
    """A name occurs at another level than its own."""


class UseMismatch(SharenetError):
    """A name has too few or too many occurrences."""


class InvalidNet(SharenetError):
    """Agents and wires are not those of a net."""


class Unreadable(SharenetError):
    """A net cannot be read back as a core term."""


class InvalidStep(SharenetError):
    """A step is not possible."""


class TooLong(SharenetError):
    """A reduction needs more steps than are allowed."""


class DuplicateName(SharenetError):
    """A definition has the name of an earlier one."""

    def __init__(self, name):
        super().__init__(name)
        self.name = name


class UnknownName(SharenetError):
    """A name has no meaning where it stands."""

    def __init__(self, name):
        super().__init__(name)
        self.name = name
