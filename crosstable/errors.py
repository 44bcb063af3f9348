"""The refusals of the program: each is a TableError."""


class TableError(ValueError):
    pass


class BadTable(TableError):
    pass


class BadChange(TableError):
    pass


class NoRoad(TableError):
    pass


class BadRow(TableError):
    pass


class BadNumber(TableError):
    pass


class NoLine(TableError):
    pass
