"""The refusals: one class for each kind."""


class FrameError(ValueError):
    """Any refusal."""


class BadCount(FrameError):
    """What is no count of joints."""


class BadBar(FrameError):
    """What is no bar, or no list of bars."""


class NoBar(FrameError):
    """What is no number of a bar."""


class Full(FrameError):
    """One bar more than a frame may have."""


class NotLean(FrameError):
    """Bars that crowd some joints, where lean ones are asked for."""


class Loose(FrameError):
    """A frame that is not stiff, where a stiff one is asked for."""


class BadStep(FrameError):
    """What is no list of steps that build a frame."""
