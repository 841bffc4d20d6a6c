"""The refusals of the cellar, one class for each."""


class CellarError(ValueError):
    pass


class BadName(CellarError):
    pass


class Taken(CellarError):
    pass


class Unknown(CellarError):
    pass


class BadNumber(CellarError):
    pass


class Gone(CellarError):
    pass


class WrongRoom(CellarError):
    pass


class Mouldy(CellarError):
    pass


class TooMuch(CellarError):
    pass


class BadLine(CellarError):
    pass
