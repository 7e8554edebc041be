"""The errors of the package (c7)."""


class WaterError(ValueError):
    """The base of all errors of the package."""


class BadBasin(WaterError):
    """A text is none of a basin and rights."""

    def __init__(self, line, reason):
        WaterError.__init__(self, f"line {line}: {reason}")
        self.line = line
        self.reason = reason


class BadPlan(WaterError):
    """A plan is not right, or a text is none of a plan or certificate."""

    def __init__(self, reason):
        WaterError.__init__(self, f"{reason}")
        self.reason = reason


class BadArgument(WaterError):
    """An argument is not what is asked for."""

    def __init__(self, reason):
        WaterError.__init__(self, f"{reason}")
        self.reason = reason


class BadChange(WaterError):
    """A change, an edit or a lease is refused."""

    def __init__(self, reason):
        WaterError.__init__(self, f"{reason}")
        self.reason = reason


class BadJournal(WaterError):
    """A line of a journal is none, or is refused."""

    def __init__(self, place):
        WaterError.__init__(self, f"line {place}")
        self.place = place


class Ended(WaterError):
    """All months of a season are closed."""

    def __init__(self):
        WaterError.__init__(self, "all months are closed")
