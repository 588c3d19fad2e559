"""What the program refuses with."""


class RootError(ValueError):
    """Any refusal."""


class BadMap(RootError):
    """A map that cannot be: a number, and a word for what is wrong."""

    def __init__(self, at, why):
        RootError.__init__(self, f"no map can be so: {why} at {at}")
        self.at = at
        self.why = why


class NoTree(RootError):
    """No tree is: the places to which no roads lead from the root."""

    def __init__(self, left):
        RootError.__init__(self, f"no roads lead from the root to {left}")
        self.left = list(left)


class NoRoad(RootError):
    """A number that is not the road, or the roads, that were asked for."""


class BadText(RootError):
    """A text that is no map: the number of its first bad row."""

    def __init__(self, row):
        RootError.__init__(self, f"no row of a map: row {row}")
        self.row = row
