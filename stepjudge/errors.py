"""The refusals: each has a class of its own, all straight under StepError."""


class StepError(ValueError):
    pass


class TooLong(StepError):
    pass


class NoForm(StepError):
    pass


class NoPlace(StepError):
    pass


class Full(StepError):
    pass


class NoRow(StepError):
    pass


class NoName(StepError):
    pass


class NoShape(StepError):
    pass


class NoneYet(StepError):
    pass


class NotSo(StepError):
    pass
