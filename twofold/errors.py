"""The refusals, one class for each."""


class FoldError(ValueError):
    pass


class BadKind(FoldError):
    pass


class ByNought(FoldError):
    pass


class NoUnit(FoldError):
    pass


class NoLine(FoldError):
    pass
