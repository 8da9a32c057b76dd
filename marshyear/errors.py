"""The errors that the program refuses with."""


class MarshError(ValueError):
    pass


class NoDate(MarshError):
    pass
