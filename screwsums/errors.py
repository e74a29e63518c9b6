"""The errors of the package; each keeps its fields, as they were passed, in attributes."""


class ScrewError(ValueError):
    """The base of all errors of the package."""


class BadNumber(ScrewError):
    """What was passed as this part is no such integer, list of integers or word."""

    def __init__(self, part):
        self.part = part


class BadFrame(ScrewError):
    """What was passed as this part is no frame, or tells none."""

    def __init__(self, part):
        self.part = part


class BadMotion(ScrewError):
    """What was passed as this part is no motion, or no list of motions."""

    def __init__(self, part):
        self.part = part


class BadSum(ScrewError):
    """What was passed as this part is no sum, or tells none."""

    def __init__(self, part):
        self.part = part


class BadLot(ScrewError):
    """What was passed as this part is no lot of motions."""

    def __init__(self, part):
        self.part = part


class BadLead(ScrewError):
    """What was passed as this part is no lead, or tells none."""

    def __init__(self, part):
        self.part = part


class BadPaper(ScrewError):
    """What was passed as this part is no such paper."""

    def __init__(self, part):
        self.part = part


class Misfit(ScrewError):
    """This part does not fit together with another one."""

    def __init__(self, part):
        self.part = part


class TooMany(ScrewError):
    """There are more of what is told than most."""

    def __init__(self, what, most):
        self.what = what
        self.most = most
