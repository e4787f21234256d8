"""The errors of the program."""


class TrothError(ValueError):
    """The base class of all errors of the program."""


class Refused(TrothError):
    """Something was refused because of a problem, a tuple."""

    def __init__(self, problem):
        self.problem = problem


class InvalidArgument(TrothError):
    """An argument is not one that is taken now."""


class PowerOff(TrothError):
    """The power of a shelf is off, or failed."""


class HouseClosed(TrothError):
    """A house is used behind a loss of power."""


class MissingPage(TrothError):
    """A page of a tree is needed that is not there."""


class NoTransaction(TrothError):
    """A transaction is needed, and none is open."""


class TransactionOpen(TrothError):
    """A transaction is open where none may be."""


class StillWaiting(TrothError):
    """A session waits for a paper or an outcome."""
