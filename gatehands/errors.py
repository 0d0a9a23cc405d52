"""The refusals of the package: each stands right under GateError."""


class GateError(ValueError):
    """Any refusal."""


class BadGate(GateError):
    """A gate that cannot be: the word why, and the numbers of hand and step (or of the box)."""

    def __init__(self, why, hand, step):
        super().__init__(f"no such gate can be: {why} (hand {hand}, step {step})")
        self.why = why
        self.hand = hand
        self.step = step


class NoHand(GateError):
    """The gate has no hand of this number."""


class TooMany(GateError):
    """More states than are looked at."""


class TwoWithin(GateError):
    """Two hands can be within at once: weaving is one that leads there."""

    def __init__(self, weaving):
        super().__init__(f"two hands are within behind {len(weaving)} steps")
        self.weaving = list(weaving)


class OtherGate(GateError):
    """The gate, or the numbers for one, are not of the kind that is asked for."""


class BadText(GateError):
    """A text that is not a gate's: row is the number of its first bad row."""

    def __init__(self, row):
        super().__init__(f"row {row} cannot be read")
        self.row = row
