"""The errors with which the program refuses."""


# The one above all others, so that any refusal can be taken by one name.
class EndError(ValueError):
    pass


class NoWord(EndError):
    pass


class NoPlace(EndError):
    pass
