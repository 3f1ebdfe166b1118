"""What follows from a store, found out only once."""

from kithbase.cutting import is_known
from kithbase.resting import Resting, changes_of_row
from kithbase.rights import verdicts
from kithbase.sheets import Sheet
from kithbase.sources import sources
from kithbase.store import SPACES


class View:
    """A store that does not change any more, and what follows from it."""

    def __init__(self, store):
        self.store = store
        self._found = {}

    def judged(self):
        """Returns the dict with the verdicts."""
        if "verdicts" not in self._found:
            self._found["verdicts"] = verdicts(self.store)
        return self._found["verdicts"]

    def tables_seen(self):
        """Returns the dict with the source for each name, over all spaces."""
        if "sources" not in self._found:
            found = [source for space in range(SPACES) for source in sources(self.store, self.judged(), space)]
            self._found["sources"] = {source.name: source for source in found}
        return self._found["sources"]

    def sheet(self, space):
        """Returns the sheet of a space."""
        return Sheet(self.store, self.judged(), space)

    def known_spaces(self):
        """Returns the list that tells which spaces are fully known."""
        return [is_known(self.store, space) for space in range(SPACES)]

    def reasons(self, found):
        """Returns the list of ways with the changes on which each of their rows rests."""
        resting = Resting(self.store, self.judged())
        changes = {}
        for pair in [pair for way in found for pair in way]:
            if pair not in changes:
                changes[pair] = changes_of_row(resting, pair[0], pair[1])
        return [[(source, row, list(changes[(source, row)])) for source, row in way] for way in found]
