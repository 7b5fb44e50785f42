"""The errors of the operations, one class for each code."""


class OutOfRange(ValueError):
    """A size or a position is out of range, there are too many layers, or a level would be too high."""


class NoSuchLayer(ValueError):
    """There is no such layer, or it has the wrong kind."""


class WrongSetting(ValueError):
    """A byte, a mode, a kind or a switch is out of range."""


class CannotClip(ValueError):
    """A pass-through group can't be clipped."""


class TooFewLayers(ValueError):
    """The group doesn't have so many other layers."""
