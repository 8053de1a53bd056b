"""The refusals."""


class GradeError(ValueError):
    """Any refusal."""


class TooMany(GradeError):
    """More parts, tasks, tries or extras than there may be."""


class BadWeight(GradeError):
    """A weight of a part or of a task out of its bounds."""


class BadWorst(GradeError):
    """A number of tasks to leave out that is out of its bounds."""


class BadTop(GradeError):
    """A most that extras can bring, out of its bounds."""


class BadMost(GradeError):
    """A most that a try can have, out of its bounds."""


class BadCap(GradeError):
    """A cap out of its bounds."""


class BadMark(GradeError):
    """A try with points out of their bounds."""


class BadExtra(GradeError):
    """An extra out of its bounds."""


class BadPlace(GradeError):
    """A part or a task that the course does not have."""


class BadWish(GradeError):
    """A wish that is no share from 0 on."""


class BadStep(GradeError):
    """A name that no step has."""
