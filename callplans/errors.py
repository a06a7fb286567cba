"""The errors of the package.

Each error keeps the values that it is given as they are, whatever they are.
"""


class PlanError(ValueError):
    """The base class of all errors of the package."""


class InvalidText(PlanError):
    """A text is not the text of a plan."""


class BadRange(PlanError):
    """A value is not a list of ranges of times from 0."""


class BadContract(PlanError):
    """The values of a contract are not as a contract needs them."""


class HasHole(PlanError):
    """A plan has a hole or a mark where it may have none."""


class NoHole(PlanError):
    """A plan is no surrounding plan."""


class NoMark(PlanError):
    """A plan does not have exactly one mark in a place that is allowed."""


class UnknownService(PlanError):
    """A service has no contract."""

    def __init__(self, name):
        self.name = name


class TooLarge(PlanError):
    """A plan is not small, or has too many calls."""


class BadWorld(PlanError):
    """A value is not a world; number is the first call that shows it."""

    def __init__(self, number):
        self.number = number


class NoOutcome(PlanError):
    """A plan cannot have the outcome that is wanted."""

    def __init__(self, wanted):
        self.wanted = wanted


class BadTime(PlanError):
    """A time cannot be closed."""

    def __init__(self, time):
        self.time = time


class BadReply(PlanError):
    """The call with this number cannot reply."""

    def __init__(self, number):
        self.number = number


class Broken(PlanError):
    """The call with this number has broken its contract."""

    def __init__(self, number):
        self.number = number


class UnknownName(PlanError):
    """There is no plan with this name."""

    def __init__(self, name):
        self.name = name


class UnknownRun(PlanError):
    """There is no run with this number."""

    def __init__(self, number):
        self.number = number


class PromiseBroken(PlanError):
    """The plan with this name ends after its deadline in the world."""

    def __init__(self, name, world):
        self.name = name
        self.world = world


class RunLate(PlanError):
    """The run with this number ends after its deadline in the world."""

    def __init__(self, number, world):
        self.number = number
        self.world = world


class BadReplies(PlanError):
    """Values are not sets of replies; number is the first call that shows it."""

    def __init__(self, number):
        self.number = number


class UnknownCall(PlanError):
    """There is no call with this number."""

    def __init__(self, number):
        self.number = number


class OtherPlans(PlanError):
    """Two bound plans do not fit each other."""


class NotSettled(PlanError):
    """A bound plan is not settled, but has to be."""


class BadShare(PlanError):
    """A value is not a share."""


class NotWaiting(PlanError):
    """The call with this number does not wait."""

    def __init__(self, number):
        self.number = number
