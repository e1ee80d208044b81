"""The refusals of the wheel."""


# The common base, so that a caller can take every refusal by one name.
class WheelError(ValueError):
    pass


class NoNote(WheelError):
    pass
