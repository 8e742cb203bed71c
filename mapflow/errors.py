"""The errors of the package: each one keeps what it was made with."""


class FlowError(ValueError):
    """The base of all errors of the package; nothing is made of it alone."""


class BadNumber(FlowError):
    """No integer or no fraction, or one outside of its bounds."""

    def __init__(self, part):
        self.part = part


class BadMap(FlowError):
    """No map, or nothing that a map can be made of."""

    def __init__(self, part):
        self.part = part


class BadLand(FlowError):
    """No land of the map."""

    def __init__(self, part):
        self.part = part


class BadPlace(FlowError):
    """No place, or no list of places."""

    def __init__(self, part):
        self.part = part


class BadPlacing(FlowError):
    """No placing, or no list of placings."""

    def __init__(self, part):
        self.part = part


class BadWeights(FlowError):
    """No weights, or nothing that weights can be made of."""

    def __init__(self, part):
        self.part = part


class BadPoly(FlowError):
    """No polynomial, or nothing that tells one."""

    def __init__(self, part):
        self.part = part


class Misfit(FlowError):
    """What was passed as this part does not fit to the rest."""

    def __init__(self, part):
        self.part = part


class TooMany(FlowError):
    """There are more than most of what is told."""

    def __init__(self, what, most):
        self.what = what
        self.most = most


class BadText(FlowError):
    """The first item of a text that cannot stand; line is always 0."""

    def __init__(self, line, item):
        self.line = line
        self.item = item
