"""Which column a name in a question means."""

from kithbase.errors import AmbiguousColumn, UnknownColumn


class Setting:
    """The sources and the parameters of a question."""

    def __init__(self, sources, parameters):
        self.sources = sources
        self.parameters = parameters


class Scope:
    """The columns of a select, or of the two sides of a join, and the scope around it."""

    def __init__(self, setting, around, columns):
        self.setting = setting
        self.around = around
        self.depth = 0 if around is None else around.depth + 1
        # Tuples that begin with the name of a source and the name of a column of it.
        self.columns = columns


def find_column(scope, source, name):
    """Returns the scope and the index of the column with this name; the source is None if it is not told."""
    while scope is not None:
        found = _matching(scope, source, name)
        if len(found) > 1:
            raise AmbiguousColumn(name)
        if found:
            return (scope, found[0])
        scope = scope.around
    raise UnknownColumn(name if source is None else f"{source}.{name}")


def _matching(scope, source, name):
    """Returns the list of the indexes of the columns of the scope that may be meant."""
    found = []
    for index, column in enumerate(scope.columns):
        if column[1] == name and source in (None, column[0]):
            found.append(index)
    return found
