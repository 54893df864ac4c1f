"""The refusals: one class for each kind, all under WideError."""


class WideError(ValueError):
    """Any refusal of widerows."""


class NoText(WideError):
    """A text that isn't written as it must be."""


class NoBoxes(WideError):
    """Too few boxes."""


class NoMove(WideError):
    """A deed that may not be moved up."""


class Early(WideError):
    """A deed, by its number, names a worth that hasn't come yet."""

    def __init__(self, number):
        super().__init__(f"deed {number} names a worth that has not come")
        self.number = number


class TooMany(WideError):
    """More knots than are gone through."""

    def __init__(self, number):
        super().__init__(f"more than {number} knots")
        self.number = number
