"""Random acts, and random stores of what several members write, as far as each knows the others."""

from builders import EVERYTHING, SEAL, grant, make, revoke
from kithbase.rights import capability_info, held_capabilities, verdicts
from kithbase.store import SPACES, Store

HOLDS = ["integer", "text", "boolean", "counter", "counter", "letters", "letters"]
WORDS = (["table"] + ["column"] * 5 + ["unique"] + ["row"] * 6 + ["drop"] + ["put"] * 9 + ["refer"] * 4 + ["add"] * 5
         + ["insert"] * 8 + ["remove"] * 3 + ["undo"] * 2)
VALUES = {"integer": [0, 1, 2, -5, 10 ** 39], "text": ["", "a", "b b", "'"], "boolean": [True, False]}


class Writer:
    """Makes random acts of a space out of those that are known, most of which have an effect."""

    def __init__(self, chance, store, author, space):
        self.chance, self.store, self.name = chance, store, (author, store.count(author) + 1)
        kept = store.kept[space]
        self.seen, self.marks = [], []
        if kept is not None:
            self.seen.extend(kept.acts)
            self.marks.extend([(cell, mark) for cell, pairs in kept.texts for mark, character in pairs])
        for change in store.all_changes():
            for place, act in enumerate(change.parts[space] or ()):
                self.note((change.author, change.number, place), act)

    def note(self, spot, act):
        self.seen.append((spot, act))
        if act[0] == "insert":
            self.marks.extend([((act[1], act[2]), spot + (index,)) for index in range(len(act[4]))])

    def acts(self, many):
        found = []
        for tries in range(50 * many):
            if len(found) < many:
                act = getattr(self, self.chance.choice(WORDS))()
                if act is not None:
                    self.note(self.name + (len(found),), act)
                    found.append(act)
        return found

    def pick(self, choices):
        choices = list(choices)
        return self.chance.choice(choices) if choices else None

    def spots(self, word):
        return [spot for spot, act in self.seen if act[0] == word]

    def spot(self, word):
        return self.pick(self.spots(word))

    def columns(self, table, *kinds):
        return [spot for spot, act in self.seen if act[0] == "column" and act[1] == table
                and (not kinds or (act[3] if isinstance(act[3], str) else "refer") in kinds)]

    def cell(self, *kinds):
        """Returns a row and a column of its table, or now and then of another one, or None."""
        rows = [(spot, act[1]) for spot, act in self.seen if act[0] == "row"]
        row = self.pick(rows)
        if row is None:
            return None
        table = row[1] if self.chance.random() < 0.97 else self.spot("table")
        column = self.pick(self.columns(table, *(kinds if self.chance.random() < 0.95 else ())))
        return None if column is None else (row[0], column)

    def table(self):
        return ("table", self.chance.choice(["t", "u", "v"]))

    def column(self):
        table = self.spot("table")
        holds = self.chance.choice(HOLDS + [("refer", table)] * 2)
        return None if table is None else ("column", table, self.chance.choice(["a", "b", "c", "d", "e", "id"]), holds)

    def unique(self):
        table = self.spot("table")
        columns = self.columns(table, "integer", "text", "boolean", "refer")
        self.chance.shuffle(columns)
        return ("unique", table, tuple(columns[:self.chance.choice([1, 1, 2])])) if columns else None

    def row(self):
        table = self.spot("table")
        return None if table is None else ("row", table)

    def drop(self):
        row = self.spot("row")
        return None if row is None else ("drop", row)

    def put(self):
        cell = self.cell("integer", "text", "boolean")
        if cell is None:
            return None
        holds = dict(self.seen)[cell[1]][3]
        values = VALUES.get(holds, [None]) if self.chance.random() < 0.95 else [1, "a", True]
        return ("put",) + cell + (self.chance.choice(values + [None]),)

    def refer(self):
        cell = self.cell("refer")
        return None if cell is None else ("refer",) + cell + (self.pick(self.spots("row") * 3 + [None]),)

    def add(self):
        cell = self.cell("counter")
        return None if cell is None else ("add",) + cell + (self.chance.choice([1, 2, -3, 0, 10 ** 39]),)

    def insert(self):
        cell = self.cell("letters")
        if cell is None:
            return None
        marks = [mark for other, mark in self.marks if other == cell or self.chance.random() < 0.02]
        return ("insert",) + cell + (self.pick(marks * 2 + [None]), self.chance.choice(["x", "yz", "uvw", ""]))

    def remove(self):
        mark = self.pick([mark for cell, mark in self.marks])
        return None if mark is None else ("remove", mark)

    def undo(self):
        name = self.pick([change.name() for change in self.store.all_changes()])
        return None if name is None else ("undo", name)


def random_rights(chance):
    return tuple((chance.random() < 0.8, chance.random() < 0.8, chance.random() < 0.6) for space in range(SPACES))


def random_publics(chance, store, capability):
    """Returns public acts, most of which are fit for a change with the capability."""
    publics = []
    if chance.random() < 0.15:
        own = capability_info(store, capability)[2]
        rights = random_rights(chance)
        fit = tuple(tuple(asked and had and mine[2] for asked, had in zip(wished, mine))
                    for wished, mine in zip(rights, own))
        publics.append(grant(chance.randrange(store.members), fit if chance.random() < 0.95 else rights))
    if chance.random() < 0.05:
        publics.append(revoke(chance.choice(held_capabilities(store, verdicts(store)) + [None])))
    if capability is None and chance.random() < 0.12:
        publics.append(SEAL)
    return publics


def some_capability(chance, store, member):
    """Returns a capability that the member holds, or now and then another one that the member has or had."""
    allowed = verdicts(store)
    held = [None] if member == 0 else []
    for capability in held_capabilities(store, allowed):
        if capability_info(store, capability)[1] == member:
            held.append(capability)
    return chance.choice(held) if held else None


class World:
    """All that the members have written, and how much of it each has heard of."""

    def __init__(self, chance, members):
        self.chance = chance
        self.store = Store(members)
        self.heard = [[0] * members for member in range(members)]
        make(self.store, 0, publics=[grant(member, EVERYTHING) for member in range(1, members)], parts=self.parts(0, 8))
        self.heard = [[1] + [0] * (members - 1) for member in range(members)]

    def known(self, member):
        """Returns a store with what the member has."""
        store = self.store.copy()
        for author, many in enumerate(self.heard[member]):
            store.changes[author] = store.changes[author][:many]
        return store

    def parts(self, member, most=4):
        store = self.known(member)
        many = [self.chance.randrange(most + 1), self.chance.choice([0, 0, 1]), 0, 0]
        return [Writer(self.chance, store, member, space).acts(many[space]) for space in range(SPACES)]

    def step(self):
        """Some member hears of what another one has heard of, and writes a change."""
        member, other = [self.chance.randrange(self.store.members) for k in range(2)]
        if self.chance.random() < 0.6:
            self.heard[member] = [max(pair) for pair in zip(self.heard[member], self.heard[other])]
        self.write(member)

    def write(self, member):
        known = self.known(member)
        capability = some_capability(self.chance, known, member)
        publics = []
        if capability_info(known, capability) is not None:
            publics = random_publics(self.chance, known, capability)
        make(self.store, member, heard=self.heard[member], capability=capability, publics=publics,
             parts=self.parts(member))
        self.heard[member][member] += 1


def random_world(chance, members=3, steps=25):
    world = World(chance, members)
    for step in range(steps):
        world.step()
    return world
