"""The refusals of the package, one class for each kind."""


class PistonError(ValueError):
    """Whatever this package refuses."""


class NoCircuit(PistonError):
    """A thing is no circuit."""


class NoStand(PistonError):
    """A thing is no stand of the circuit."""


class NoEvent(PistonError):
    """The thing with the number at is no event there."""

    def __init__(self, at):
        self.at = at


class Restless(PistonError):
    """Behind the event with the number at no settled stand comes."""

    def __init__(self, at):
        self.at = at


class NoRound(PistonError):
    """A thing is no round of the sections."""


class NoCut(PistonError):
    """A thing is no cut of the round."""


class NoFault(PistonError):
    """A thing is no fault of the circuit."""


class TooGreat(PistonError):
    """More comes than is looked through."""


class NoText(PistonError):
    """A text doesn't read as it should."""


class NoAsk(PistonError):
    """A row asks for nothing that a desk knows."""


class NoWork(PistonError):
    """A desk has no round or no circuit to work on."""
