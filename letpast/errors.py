"""The base of all errors of the package."""


class LetError(ValueError):
    """Anything that the package refuses."""
