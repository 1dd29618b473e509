"""The errors of Plandays."""


class PlanError(ValueError):
    """The base of all errors of the package."""

    def __init__(self, value):
        self.value = value


class NoTask(PlanError):
    """A book has no task."""


class InvalidName(PlanError):
    """A string is no name."""


class DoubleName(PlanError):
    """A name stood before."""


class InvalidRule(PlanError):
    """A tuple has not the form of a rule."""


class UnknownTask(PlanError):
    """A name is no task of the book."""


class SameTask(PlanError):
    """Two tasks that must differ are the same."""


class UnlikeTasks(PlanError):
    """Two books have not the same tasks."""


class InvalidNumber(PlanError):
    """A number is out of its range."""


class InvalidPlan(PlanError):
    """A list of days is no plan of the book."""


class NoPlan(PlanError):
    """There is no plan for a number of days."""


class Quarrel(PlanError):
    """Rules contradict each other."""


class NothingToUndo(PlanError):
    """There is no rule to take back."""


class Unreadable(PlanError):
    """Nothing has this text."""
