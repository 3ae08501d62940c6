"""The refusals: one class for each kind of thing that is refused."""


class PressError(ValueError):
    """Any refusal."""


class BadPlan(PressError):
    """What was handed in as a plan is none."""


class BadSign(PressError):
    """A sign, or a text, is none of the plan."""


class BadCount(PressError):
    """A number of signs is none."""


class BadFigures(PressError):
    """Figures are none, are too many, or do not tell a whole text."""


class Ended(PressError):
    """A writer is used behind its end."""
