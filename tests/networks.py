"""Random networks of replicas, and what point 111 promises of them."""

from builders import EVERYTHING, grant
from kithbase.errors import NothingToTrim, PowerOff, UncountedChange, UnfitPacket
from kithbase.log import counting_file, read_log
from kithbase.reading import Reader
from kithbase.replica import Replica
from kithbase.rights import capability_info, may_read, verdicts
from kithbase.spaces import alike
from kithbase.store import SPACES, Store, is_whole
from worlds import Writer, random_publics, random_rights, some_capability


def store_of(replica, members):
    """Returns the store that the files of a replica tell."""
    first, second = replica.log(0), replica.log(1)
    return read_log([first, second][counting_file(first, second, members)], members)[1]


class Network:
    """Replicas, the packets that are on their way, and the changes that the replicas have made."""

    def __init__(self, chance, members, failures=0.0):
        self.chance, self.members, self.failures = chance, members, failures
        self.replicas = [Replica(member, members) for member in range(members)]
        self.changes = [[] for member in range(members)]
        self.packets = []
        self.tried = {}
        self.unfit = 0
        rights = [EVERYTHING if chance.random() < 0.5 else random_rights(chance) for member in range(members)]
        self.change(0, [grant(member, rights[member]) for member in range(1, members)], None)

    def store(self, member):
        return store_of(self.replicas[member], self.members)

    def do(self, member, word, *arguments):
        """Calls a method of a replica, and turns power on again if it fails."""
        replica = self.replicas[member]
        self.tried[word] = self.tried.get(word, 0) + 1
        if self.chance.random() < self.failures:
            replica.fail_after(int(self.chance.choice([0, 1, 2, 5, 20, 100, 500, 3000]) * self.chance.random()))
        try:
            found = getattr(replica, word)(*arguments)
            if self.chance.random() > self.failures:
                return found
        except PowerOff:
            found = None
        self.restart(member)
        return found

    def restart(self, member):
        """Lets power fail, and opens the replica again, whatever happens."""
        replica = self.replicas[member]
        while True:
            many = [self.chance.choice([0, 1, 3, 50, 10 ** 6]) for k in range(2)]
            replica.power(*many)
            if self.chance.random() < 0.3:
                replica.fail_after(self.chance.randrange(6))
            try:
                replica.open_again()
            except PowerOff:
                continue
            break
        # What its author has lost nobody else has.
        left = replica.status()[0][member]
        del self.changes[member][left:]

    def change(self, member, publics, capability):
        store = self.store(member)
        parts = {}
        for space in range(SPACES):
            if self.chance.random() < [0.9, 0.5, 0.1, 0.1][space]:
                if capability_info(store, capability)[2][space][1]:
                    parts[space] = Writer(self.chance, store, member, space).acts(self.chance.randrange(5))
        try:
            name = self.do(member, "act", capability, publics, parts)
        except UncountedChange:
            return
        now = self.store(member)
        if now.count(member) > len(self.changes[member]):
            made = now.changes[member][-1]
            assert name in (None, made.name())
            self.changes[member].append(made)

    def act(self):
        member = self.chance.randrange(self.members)
        store = self.store(member)
        capability = some_capability(self.chance, store, member)
        if member == 0 or capability is not None:
            self.change(member, random_publics(self.chance, store, capability), capability)

    def ask(self):
        """One replica asks another one, and the answer is on its way."""
        first, second = [self.chance.randrange(self.members) for k in range(2)]
        wanted = self.do(first, "have")
        if wanted is not None:
            given = self.do(second, "answer", wanted)
            if given is not None:
                self.check_packet(first, second, given)
                self.packets.append(given)
                if self.chance.random() < 0.5:
                    self.do(first, "take", given)

    def take(self):
        """A packet that is on its way is taken by any replica."""
        if self.packets:
            packet = self.chance.choice(self.packets[-self.chance.choice([2, 5, 1000]):])
            before = list(packet)
            try:
                self.do(self.chance.randrange(self.members), "take", packet)
            except UnfitPacket:
                # It has changes that had heard of others which this replica does not have.
                self.unfit += 1
            assert packet == before

    def trim(self):
        try:
            self.do(self.chance.randrange(self.members), "trim")
        except NothingToTrim:
            pass

    def step(self):
        getattr(self, self.chance.choice(["act"] * 10 + ["ask"] * 9 + ["take"] * 6 + ["trim"]))()

    def check_packet(self, asker, giver, packet):
        """Part 4: there is nothing of a space in it that the one who asked could not read."""
        store = self.store(giver)
        allowed = verdicts(store)
        reader = Reader(packet)
        assert reader.read_number() == 2
        cut = [reader.read_number() for k in range(reader.read_number())]
        capabilities = [reader.read_capability() for k in range(reader.read_number())]
        kept = [reader.read_kept() if reader.read_number() else None for space in range(SPACES)]
        changes = [reader.read_change() for k in range(reader.read_number())]
        reader.end()
        assert (cut, capabilities) == (store.cut, store.capabilities)
        assert changes == sorted(changes, key=lambda change: change.name())
        for space in range(SPACES):
            if not may_read(store, allowed, asker, space):
                assert kept[space] is None
                assert all(change.parts[space] is None for change in changes)

    def full_store(self, counts):
        """Returns a store with the first so many of all changes, in which nothing is cut away."""
        store = Store(self.members)
        for changes, many in zip(self.changes, counts):
            for change in changes[:many]:
                store.add(change)
        return store

    def check(self, tell):
        """Parts 1 to 3: each replica has the first changes of each member, and tells what follows from them."""
        told = {}
        for member, replica in enumerate(self.replicas):
            store = self.store(member)
            counts, cut, known = replica.status()
            assert (counts, cut) == (store.counts(), store.cut)
            assert is_whole(store)
            assert counts[member] == len(self.changes[member])
            full = self.full_store(counts)
            assert full.counts() == counts, (full.counts(), counts)
            assert is_whole(full)
            for change in store.all_changes():
                made = full.find(change.name())
                assert alike(change.header(), made.header())
                for part, whole in zip(change.parts, made.parts):
                    assert part is None or alike(part, whole)
            allowed = verdicts(full)
            for change in full.all_changes():
                verdict = replica.verdict(change.name())
                assert verdict == (allowed[change.name()] if store.find(change.name()) else None)
            for space in range(SPACES):
                if known[space]:
                    mine = tell(store, space)
                    key = (tuple(counts), space)
                    if key not in told:
                        told[key] = tell(full, space)
                    assert mine == told[key], (member, space, mine, told[key])
