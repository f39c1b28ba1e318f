"""The refusals, one class for each."""


class CellError(ValueError):
    pass


class NoRow(CellError):
    pass


class TwoMarks(CellError):
    pass


class NoMark(CellError):
    pass


class NoCells(CellError):
    pass


class NoLine(CellError):
    pass
