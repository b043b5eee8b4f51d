"""The refusals of the program."""


class BookError(ValueError):
    pass


class BadNumber(BookError):
    pass


class BadTable(BookError):
    pass


class BadSize(BookError):
    pass


class NoTurn(BookError):
    pass
