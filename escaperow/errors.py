"""The refusals of the package."""


class RowError(ValueError):
    """Any refusal."""


class BadWay(RowError):
    """What cannot be a way of framing; why is the word for its first fault."""

    def __init__(self, why):
        super().__init__(f"no way of framing: {why}")
        self.why = why


class BadBody(RowError):
    """What cannot be a body; at is the place of its fault."""

    def __init__(self, at):
        super().__init__(f"no body: at {at}")
        self.at = at


class BadSigns(RowError):
    """What cannot be a list of signs to read; at is the place of its fault."""

    def __init__(self, at):
        super().__init__(f"no signs: at {at}")
        self.at = at


class OtherTop(RowError):
    """Two ways that have unlike tops."""


class BadText(RowError):
    """A text in which no way is written."""
