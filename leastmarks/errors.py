"""The errors of the package: one class for each way in which a call can fail."""


class MarkError(ValueError):
    """What all errors of the package are."""

    def __init__(self):
        # Without this, a ValueError would take whatever it is passed.
        pass


class NoProgram(MarkError):
    """Kinds and modules make no program."""

    def __init__(self, where, at, why):
        self.where = where
        self.at = at
        self.why = why


class NoText(MarkError):
    """A text is none of a program."""

    def __init__(self, at):
        self.at = at


class NoFunction(MarkError):
    """A value is not the name of a function of the program."""

    def __init__(self, name):
        self.name = name


class NoPoint(MarkError):
    """A value is not the number of a point that fits."""

    def __init__(self, at):
        self.at = at


class NoPlan(MarkError):
    """A plan cannot be made of the values."""


class HasFaults(MarkError):
    """A plan uses places that may be empty."""

    def __init__(self, faults):
        self.faults = faults


class NoChoices(MarkError):
    """A value is no row of choices."""

    def __init__(self, at):
        self.at = at


class NoStops(MarkError):
    """A value tells no stops of the plan."""


class NoLowered(MarkError):
    """Parts make no lowered program."""

    def __init__(self, name, why):
        self.name = name
        self.why = why


class NoWrites(MarkError):
    """A value is no row of writes."""

    def __init__(self, at):
        self.at = at


class NoSpare(MarkError):
    """A value is no mark that can be spared."""

    def __init__(self, spare):
        self.spare = spare


class NoImage(MarkError):
    """A value is not what an image, or its run, is made of."""


class NoModule(MarkError):
    """A build has no module of the name."""

    def __init__(self, name):
        self.name = name
