"""The error under which all errors of the package stand."""


class ScoreError(ValueError):
    """The base of all errors of the package."""
