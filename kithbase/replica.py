"""Replicas: what each member of a group has."""

from kithbase.changes import Change
from kithbase.cutting import before_seal, cut_at, is_known
from kithbase.disks import Disks
from kithbase.errors import InvalidArgument, NothingToTrim, ReplicaClosed, ReplicaOpen, UncountedChange
from kithbase.kinds import check
from kithbase.live import Live
from kithbase.log import change_note, counting_log, log_start, packet_note, read_log
from kithbase.meaning import answer
from kithbase.packets import asking, giving, taking
from kithbase.parser import parse
from kithbase.rights import allowed_seals, capability_info, is_fit, is_held, readable_spaces
from kithbase.store import SPACES, Store, with_next
from kithbase.views import View
from kithbase.why import ways
from kithbase.yielding import conflicts

MOST_MEMBERS = 6


class Replica:
    """A replica of a member: a store, and two files in which a log of it is kept."""

    def __init__(self, member, members):
        if not _is_integer(members) or not 1 <= members <= MOST_MEMBERS:
            raise InvalidArgument("a network has from 1 to 6 members")
        if not _is_integer(member) or not 0 <= member < members:
            raise InvalidArgument("this is no member of the network")
        self._member = member
        self._members = members
        self._disks = Disks()
        self._view = View(Store(members))
        self._turn = 1
        # The index of the file that counts.
        self._counting = 0
        self._running = True
        self._begin_log()

    def _begin_log(self):
        """Writes a log with an empty store into the first file, which is empty."""
        self._disks.write(0, log_start(1, Store(self._members)))
        self._disks.flush(0)

    def _check_running(self):
        """Checks that power is on and the replica is open."""
        self._disks.check()
        if not self._running:
            raise ReplicaClosed("the replica is closed")

    def act(self, capability, publics, parts):
        """Makes a change, and returns its name."""
        self._check_running()
        store = self._view.store
        acts = [parts.get(space, ()) for space in range(SPACES)]
        number = store.count(self._member) + 1
        change = Change(self._member, number, store.counts(), capability, publics, acts)
        after = View(with_next(store, change))
        if not _would_count(self._view, after, change):
            raise UncountedChange("the change would not count")
        self._note(after, change_note(change))
        return change.name()

    def _note(self, after, note):
        """Appends a note to the log, and goes on with what follows from it."""
        self._disks.write(self._counting, note)
        self._view = after

    def have(self):
        """Returns a packet that asks."""
        self.flush()
        return asking(self._view.store, self._member)

    def answer(self, packet):
        """Returns a packet that gives, for a packet that asks."""
        self._check_running()
        given = giving(self._view.store, packet)
        self.flush()
        return given

    def take(self, packet):
        """Takes a packet that gives."""
        self._check_running()
        self._note(View(taking(self._view.store, packet)), packet_note(packet))

    def ask(self, text, parameters=()):
        """Returns the answer of a question: the names of its columns and its rows."""
        tables = self.tables_seen()
        return answer(parse(text), tables, list(parameters))

    def tables_seen(self):
        """Returns the dict with the source for each name."""
        self._check_running()
        return self._view.tables_seen()

    def live(self, text, parameters=()):
        """Checks a question, and returns a live result."""
        tables = self.tables_seen()
        tree = parse(text)
        check(tree, tables, list(parameters))
        return Watch(self, Live(tree, parameters))

    def why(self, text, parameters, row):
        """Returns the list of the ways of a row, with the changes on which the rows of each way rest."""
        tables = self.tables_seen()
        return self._view.reasons(ways(parse(text), tables, list(parameters), row))

    def conflicts(self, space):
        """Returns the conflicts of a space."""
        self._check_running()
        return conflicts(self._view.sheet(space))

    def verdict(self, name):
        """Returns whether the change with this name is allowed, or None if it is not in the store."""
        self._check_running()
        return self._view.judged().get(name)

    def status(self):
        """Returns the numbers of changes, of cut away changes, and which spaces are fully known."""
        self._check_running()
        store = self._view.store
        return (store.counts(), list(store.cut), self._view.known_spaces())

    def trim(self):
        """Cuts the past away at the last allowed seal."""
        self._check_running()
        seal = self._last_known_seal()
        old, new = self._counting, 1 - self._counting
        after = cut_at(self._view.store, seal)
        self._disks.shorten(new, 0)
        self._disks.write(new, log_start(self._turn + 1, after))
        self._disks.flush(new)
        self._disks.shorten(old, 0)
        self._go_on(new, self._turn + 1, after)

    def _last_known_seal(self):
        """Returns the last allowed seal; all spaces that the member may read must be known up to it."""
        store, allowed = self._view.store, self._view.judged()
        seals = allowed_seals(store, allowed)
        if not seals:
            raise NothingToTrim("there is no allowed seal")
        before = before_seal(store, seals[-1])
        for space, readable in enumerate(readable_spaces(store, allowed, self._member)):
            if readable and not is_known(before, space):
                raise NothingToTrim("a space is not known up to the seal")
        return seals[-1]

    def _go_on(self, counting, turn, store):
        """Goes on with a store and the file that counts."""
        self._counting = counting
        self._turn = turn
        self._view = View(store)

    def open_again(self):
        """Opens the replica, which is closed, with what its files tell."""
        self._disks.check()
        if self._running:
            raise ReplicaOpen("the replica is open")
        told = self._told()
        if told == [None, None]:
            self._disks.shorten(0, 0)
            self._disks.shorten(1, 0)
            self._begin_log()
            told = self._told()
        counting = counting_log(told[0], told[1])
        turn, store, size = told[counting]
        self._disks.shorten(counting, size)
        self._disks.flush(counting)
        self._disks.shorten(1 - counting, 0)
        self._go_on(counting, turn, store)
        self._running = True

    def _told(self):
        """Returns the list of what the two files tell."""
        return [read_log(self.log(index), self._members) for index in range(2)]

    def flush(self):
        """Flushes the file that counts."""
        self._check_running()
        self._disks.flush(self._counting)

    def fail_after(self, steps):
        """Lets power fail after so many further steps."""
        self._disks.fail_after(steps)

    def power(self, first, second):
        """Lets power fail if it has not yet, and turns it on again; the replica is closed then."""
        self._disks.lose(first, second)
        self._running = False

    def log(self, index):
        """Returns what one of the files contains."""
        return self._disks.files[index].content()


class Watch:
    """A live result of a replica."""

    def __init__(self, replica, live):
        self._replica = replica
        self._live = live

    def turn(self):
        """Asks again, and returns the names of the columns, the rows that came and those that went."""
        return self._live.turn(self._replica.tables_seen())


def _is_integer(value):
    """True if the value is an integer and not a boolean."""
    return isinstance(value, int) and not isinstance(value, bool)


def _would_count(view, after, change):
    """True if a change would count, where `view` is of the store without it and `after` of the one with it."""
    store = view.store
    if not is_fit(store, change) or not is_held(store, view.judged(), change.capability):
        return False
    parent, holder, rights = capability_info(store, change.capability)
    if any([acts and not triple[1] for acts, triple in zip(change.parts, rights)]):
        return False
    return after.judged()[change.name()]
