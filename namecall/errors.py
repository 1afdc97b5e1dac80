"""The refusals of the program."""


class CallError(ValueError):
    pass


class NoStep(CallError):
    pass


class Outer(CallError):
    pass


class NoLine(CallError):
    pass
