"""The refusals, one class for each of them."""


# Under ValueError, so that a caller can take every refusal without knowing this package's own names.
class ScaleError(ValueError):
    pass


class NoBottom(ScaleError):
    pass


class BadRow(ScaleError):
    pass


class BadValues(ScaleError):
    pass


class NoSolution(ScaleError):
    pass
