"""The refusals."""


# Any refusal, so that a caller can take them all by one name.
class PressError(ValueError):
    pass


class BadProgram(PressError):
    pass


class BadPans(PressError):
    pass


class Stuck(PressError):
    pass
