"""The refusals of the program, each with a class of its own."""


class GateError(ValueError):
    pass


class NoPlace(GateError):
    pass


class Ring(GateError):
    pass


class NoLine(GateError):
    pass
