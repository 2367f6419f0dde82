"""All refusals of the program."""


class LightError(ValueError):
    """Any refusal."""


class BadNet(LightError):
    """A net that cannot be: a number and the word for what is wrong there."""

    def __init__(self, at, why):
        LightError.__init__(self, f"{why} at {at}")
        self.at = at
        self.why = why


class BadState(LightError):
    """A state that may not be: the word for what is wrong, and the lines that show it."""

    def __init__(self, why, shown):
        LightError.__init__(self, f"{why}: {shown}")
        self.why = why
        self.shown = list(shown)


class BadDeed(LightError):
    """A deed that can't be done, or a state that names its lines wrongly."""


class NoCut(LightError):
    """A source cannot be parted from all sources."""


class NoPlan(LightError):
    """No plan lights all places: all states that can be come to."""

    def __init__(self, states):
        LightError.__init__(self, f"no plan among {len(states)} states")
        self.states = list(states)


class BadText(LightError):
    """A text that is no net: the number of the first row that isn't so."""

    def __init__(self, row):
        LightError.__init__(self, f"row {row}")
        self.row = row
