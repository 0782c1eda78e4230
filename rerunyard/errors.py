"""The refusals: each class stands straight under RunError, so that one is never taken for another."""


class RunError(ValueError):
    pass


class TooLong(RunError):
    pass


class NoRow(RunError):
    pass


class NoPlace(RunError):
    pass


class TooDeep(RunError):
    pass


class NoMeasure(RunError):
    pass


class Twice(RunError):
    pass


class Open(RunError):
    pass


class NoLog(RunError):
    pass


class NoForm(RunError):
    pass


class NoneYet(RunError):
    pass


class NoThing(RunError):
    pass
