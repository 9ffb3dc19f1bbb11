"""The errors of the program."""


class FlowError(ValueError):
    """Above every error that the program raises by itself."""


class BadLayer(FlowError):
    """What was handed in as a layer is none."""
