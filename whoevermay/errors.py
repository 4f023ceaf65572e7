"""The errors that the program raises."""


class WhoevermayError(ValueError):
    """The base class of all errors of the program."""


class InvalidCharter(WhoevermayError):
    """The parts make no charter."""


class InvalidGoal(WhoevermayError):
    """The demands make no goal."""


class InvalidEntry(WhoevermayError):
    """A ledger does not take this entry."""


class InvalidQuestion(WhoevermayError):
    """A question with a part that the question does not allow."""


class NothingToUndo(WhoevermayError):
    """There is no change to take back."""


class NothingToRedo(WhoevermayError):
    """There is no change to make again."""


class UnknownName(WhoevermayError):
    """There is nothing of the asked sort with this name."""

    def __init__(self, name):
        super().__init__(f"unknown name {name}")
        self.name = name


class InvalidAction(WhoevermayError):
    """An action cannot be done; so many were done before it."""

    def __init__(self, number):
        super().__init__(f"invalid action behind {number} others")
        self.number = number


class InvalidNotation(WhoevermayError):
    """A line of a text, counted from 1, cannot stand where it stands."""

    def __init__(self, line):
        super().__init__(f"invalid notation in line {line}")
        self.line = line


class InvalidCertificate(WhoevermayError):
    """A line of a certificate, counted from 1, breaks its form."""

    def __init__(self, line):
        super().__init__(f"invalid certificate in line {line}")
        self.line = line


class TooMany(WhoevermayError):
    """A search keeps more markings than this limit allows."""

    def __init__(self, limit):
        super().__init__(f"more than {limit} markings")
        self.limit = limit


class NameInUse(WhoevermayError):
    """A question is still about the charter of this name."""

    def __init__(self, name):
        super().__init__(f"name in use {name}")
        self.name = name
