"""The refusals of the program."""


class OrderError(ValueError):
    pass


class NoKind(OrderError):
    pass


class NoThing(OrderError):
    pass


class BadCall(OrderError):
    pass


class NoLine(OrderError):
    pass
