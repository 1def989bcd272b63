"""The refusals of the program."""


class PackError(ValueError):
    pass


class NoNumber(PackError):
    pass


class NoRow(PackError):
    pass
