"""The refusals of the program."""


class PeatError(ValueError):
    pass


class NoAmount(PeatError):
    pass


class NoShare(PeatError):
    pass
