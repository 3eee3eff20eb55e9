"""The refusals, one class each."""


class BookError(ValueError):
    pass


class NoSpan(BookError):
    pass


class SameName(BookError):
    pass


class NoName(BookError):
    pass


class Taken(BookError):
    pass
