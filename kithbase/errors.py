"""The errors of the program."""


class KithbaseError(ValueError):
    """The base class of all errors of the program."""


class InvalidArgument(KithbaseError):
    """An argument is not as it must be."""


class InvalidName(InvalidArgument):
    """A text is not the written form of a name, a spot or a mark."""


class UncountedChange(KithbaseError):
    """A change would not count."""


class DamagedPacket(KithbaseError):
    """Bytes are not the written form of what was to be read."""


class UnfitPacket(KithbaseError):
    """A packet does not fit a store."""


class PowerOff(KithbaseError):
    """Power is off, or has failed."""


class ReplicaClosed(KithbaseError):
    """The replica is closed."""


class ReplicaOpen(KithbaseError):
    """The replica is open already."""


class NothingToTrim(KithbaseError):
    """There is no seal at which the store can be cut."""


class QuestionError(KithbaseError):
    """The base class of the errors of questions."""


class RefusedText(QuestionError):
    """A text is refused as a question at a position."""

    def __init__(self, position):
        self.position = position


class UnknownTable(QuestionError):
    """No table has this name."""

    def __init__(self, name):
        self.name = name


class UnknownColumn(QuestionError):
    """No column has this name."""

    def __init__(self, name):
        self.name = name


class AmbiguousColumn(QuestionError):
    """Several columns have this name."""

    def __init__(self, name):
        self.name = name


class DuplicateSource(QuestionError):
    """Several sources are known by this name."""

    def __init__(self, name):
        self.name = name


class NotGrouped(QuestionError):
    """The column with this name is not one of the columns of the grouping."""

    def __init__(self, name):
        self.name = name


class UnknownParameter(QuestionError):
    """There is no parameter with this number."""

    def __init__(self, number):
        self.number = number


class UnknownPosition(QuestionError):
    """There is no column at this position."""

    def __init__(self, number):
        self.number = number


class KindMismatch(QuestionError):
    """Kinds do not fit."""


class ColumnCount(QuestionError):
    """A query has another number of columns than is needed."""


class RowCount(QuestionError):
    """A query is not sure to have one row."""


class AggregateNotAllowed(QuestionError):
    """An aggregate stands where none is allowed."""


class GroupingNotAllowed(QuestionError):
    """Something else than a column of the select is grouped by."""


class NothingToShow(QuestionError):
    """There are no columns for a star."""


class NoReason(QuestionError):
    """No reasons are told for questions of this form."""
