"""The refusals: one class for each, all under one."""


class YardError(ValueError):
    pass


class NoRow(YardError):
    pass


class NoName(YardError):
    pass


class NoMeasure(YardError):
    pass


class NoPipe(YardError):
    pass


class NoAmount(YardError):
    pass


class NoMoment(YardError):
    pass


class TooWide(YardError):
    pass


class TooLittle(YardError):
    pass


class TooFull(YardError):
    pass
