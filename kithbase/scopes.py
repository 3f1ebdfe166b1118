"""Which column a name in a question means."""

from kithbase.errors import AmbiguousColumn, UnknownColumn


class Setting:
    """The sources and the parameters of a question."""

    def __init__(self, sources, parameters):
        self.sources = sources
        self.parameters = parameters


class Scope:
    """The columns of a select, or of the two sides of a join, the scope around it, and what is noted of it."""

    def __init__(self, setting, around, columns):
        self.setting = setting
        self.around = around
        self.depth = 0 if around is None else around.depth + 1
        # Tuples that begin with the name of a source and the name of a column; the check has their kinds, too.
        self.columns = columns
        # For the check: whether aggregates may stand here now, and the indexes of the only columns that may be used
        # now, or None if all may.
        self.allows = False
        self.grouped = None
        # For the meaning: the columns of the scopes around this one that are used in it, as pairs of a depth and an
        # index, and the aggregates over the groups, as pairs of a word and the function of the operand.
        self.reads = {}
        self.folds = []


def find_column(scope, source, name):
    """Returns the scope and the index of the column with this name; the source is None if it is not told."""
    while scope is not None:
        found = _matching(scope, source, name)
        if len(found) > 1:
            raise AmbiguousColumn(name)
        if found:
            return (scope, found[0])
        scope = scope.around
    raise UnknownColumn(name if source is None else f"{source}.{name}")


def _matching(scope, source, name):
    """Returns the list of the indexes of the columns of the scope that may be meant."""
    found = []
    for index, column in enumerate(scope.columns):
        if column[1] == name and source in (None, column[0]):
            found.append(index)
    return found
