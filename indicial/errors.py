"""The errors that the program raises."""


class Fault(ValueError):
    """The base class of all errors of the program."""


class ZeroDivisor(Fault):
    """A division by zero."""


class Malformed(Fault):
    """An argument does not have the form that is asked for."""


class Refused(Fault):
    """A task that is not done; the reason is a string of small letters."""

    def __init__(self, reason):
        super().__init__(f"refused: {reason}")
        self.reason = reason


class NoText(Fault):
    """A text that cannot be read; `at` is the position, from 0, of what is wrong."""

    def __init__(self, at):
        super().__init__(f"no text, see position {at}")
        self.at = at
