"""The errors of the package: one class for each kind of failure."""


class SteadyError(ValueError):
    """The class above all errors of the package."""


class ZeroDenominator(SteadyError):
    """A denominator or a divisor is 0."""


class TextError(SteadyError):
    """A text does not have the form that it should have."""


class AxisError(SteadyError):
    """An axis is not 0 or 1."""


class BoxError(SteadyError):
    """A size of a box is not above 0."""


class IdError(SteadyError):
    """A name or an id is unknown, in use or out of its range."""


class TooLarge(SteadyError):
    """There is more of something than the limit allows."""


class BodyError(SteadyError):
    """A body of a state is not as it should be."""


class OverlapError(SteadyError):
    """Two boxes overlap that must not."""


class JointError(SteadyError):
    """A joint of a state is not as it should be."""


class PushError(SteadyError):
    """A push is out of order or not one of a moving body."""


class RowError(SteadyError):
    """A row or a line is not as it should be, or all of them together leave no point."""


class JournalError(SteadyError):
    """A journal has a line that is no deed or a deed that fails."""


class TickError(SteadyError):
    """A number of ticks is out of its range."""
