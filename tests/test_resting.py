"""Point 86: the changes on which a row of a table rests."""

import random
import unittest

from builders import ALL, EVERYTHING, NONE, SEAL, grant, group, make, own, revoke, say
from kithbase.changes import in_past
from kithbase.cutting import cut_at
from kithbase.letters import characters
from kithbase.naming import parse_spot
from kithbase.rights import allowed_seals, verdicts
from kithbase.sheets import Sheet
from kithbase.sources import sources
from kithbase.store import Kept, Store
from kithbase.why import rests_on
from worlds import random_world

# The founder grants in its first change and makes the table in its second one.
T, N, W, REF, COUNT, LETTERS = [(0, 2, place) for place in range(6)]
ROW = (0, 2, 6)
SETUP = [("table", "t"), ("column", T, "n", "integer"), ("column", T, "w", "text"), ("column", T, "ref", ("refer", T)),
         ("column", T, "c", "counter"), ("column", T, "l", "letters"), ("row", T)]


def rests(store, row=ROW, source="s0_t"):
    return rests_on(store, verdicts(store), source, ".".join(str(part) for part in row))


def office(members=3):
    store = group(members)
    say(store, 0, SETUP)
    return store


class Alone(unittest.TestCase):
    def test_a_row_without_values(self):
        store = office(1)
        self.assertEqual(rests(store), [(0, 2)])

    def test_it_is_a_new_list(self):
        store = office(1)
        rests(store).append((7, 7))
        self.assertEqual(rests(store), [(0, 2)])

    def test_the_row_the_table_and_the_columns(self):
        store = Store(1)
        make(store, 0, [("table", "t")])
        make(store, 0, [("column", (0, 1, 0), "a", "integer")])
        make(store, 0, [("column", (0, 1, 0), "b", "letters")])
        make(store, 0, [("row", (0, 1, 0))])
        self.assertEqual(rests(store, (0, 4, 0)), [(0, 4), (0, 1), (0, 2), (0, 3)])

    def test_only_the_columns_of_the_source(self):
        store = Store(1)
        make(store, 0, [("table", "t"), ("row", (0, 1, 0))])
        make(store, 0, [("column", (0, 1, 0), "id", "integer"), ("put", (0, 1, 1), (0, 2, 0), 3)])
        make(store, 0, [("column", (0, 1, 0), "a", "integer")])
        make(store, 0, [("column", (0, 1, 0), "a", "integer"), ("put", (0, 1, 1), (0, 4, 0), 3)])
        self.assertEqual(rests(store, (0, 1, 1)), [(0, 1), (0, 3)])

    def test_the_order_of_columns(self):
        store = office(1)
        make(store, 0, [("put", ROW, W, "x")])
        make(store, 0, [("put", ROW, N, 1)])
        self.assertEqual(rests(store), [(0, 2), (0, 4), (0, 3)])

    def test_a_change_stands_once_at_its_first_place(self):
        store = office(1)
        make(store, 0, [("put", ROW, W, "x"), ("add", ROW, COUNT, 1)])
        make(store, 0, [("add", ROW, COUNT, 1), ("put", ROW, N, 5)])
        self.assertEqual(rests(store), [(0, 2), (0, 4), (0, 3)])

    def test_the_write_that_counts(self):
        store = office(1)
        make(store, 0, [("put", ROW, N, 1)])
        make(store, 0, [("put", ROW, N, None)])
        self.assertEqual(rests(store), [(0, 2), (0, 4)])

    def test_writes_without_an_effect(self):
        store = office(1)
        make(store, 0, [("put", ROW, N, "x")])
        make(store, 0, [("put", ROW, COUNT, 1)])
        make(store, 0, [("add", ROW, N, 1)])
        make(store, 0, [("refer", ROW, REF, (0, 9, 9))])
        self.assertEqual(rests(store), [(0, 2)])

    def test_references(self):
        store = office(1)
        make(store, 0, [("row", T)])
        make(store, 0, [("refer", ROW, REF, (0, 3, 0))])
        # The row that is referred to is another row, and what it rests on is not told here.
        self.assertEqual(rests(store), [(0, 2), (0, 4)])
        self.assertEqual(rests(store, (0, 3, 0)), [(0, 3), (0, 2)])

    def test_a_reference_that_was_taken_back(self):
        store = office(1)
        make(store, 0, [("refer", ROW, REF, ROW)])
        make(store, 0, [("refer", ROW, REF, None)])
        self.assertEqual(rests(store), [(0, 2), (0, 4)])

    def test_another_space(self):
        store = Store(1)
        parts = [(), (), (("table", "t"), ("row", (0, 1, 0))), ()]
        make(store, 0, parts=parts)
        make(store, 0, [("table", "t"), ("row", (0, 2, 0))])
        self.assertEqual(rests(store, (0, 1, 1), "s2_t"), [(0, 1)])
        self.assertEqual(rests(store, (0, 2, 1), "s0_t"), [(0, 2)])

    def test_the_table_that_holds_the_name(self):
        store = Store(1)
        make(store, 0, [("table", "t"), ("table", "u")])
        make(store, 0, [("table", "t")])
        make(store, 0, [("row", (0, 1, 1)), ("row", (0, 1, 0))])
        self.assertEqual(rests(store, (0, 3, 1)), [(0, 3), (0, 1)])
        self.assertEqual(rests(store, (0, 3, 0), "s0_u"), [(0, 3), (0, 1)])


class Counters(unittest.TestCase):
    def test_all_that_add(self):
        store = office()
        say(store, 1, [("add", ROW, COUNT, 1)])
        say(store, 2, [("add", ROW, COUNT, 0)])
        say(store, 0, [("add", ROW, COUNT, -1)])
        self.assertEqual(rests(store), [(0, 2), (1, 1), (0, 1), (2, 1), (0, 3)])

    def test_the_order_of_the_acts(self):
        store = office()
        heard = store.counts()
        say(store, 2, [("add", ROW, COUNT, 1)], heard)
        say(store, 1, [("add", ROW, COUNT, 1)], heard)
        self.assertEqual(rests(store), [(0, 2), (1, 1), (0, 1), (2, 1)])

    def test_what_is_undone(self):
        store = office()
        say(store, 1, [("add", ROW, COUNT, 1)])
        say(store, 2, [("undo", (1, 1)), ("add", ROW, COUNT, 2)])
        self.assertEqual(rests(store), [(0, 2), (2, 1), (0, 1)])

    def test_what_is_closed_cannot_be_undone(self):
        store = office()
        say(store, 1, [("add", ROW, COUNT, 1)])
        make(store, 0, publics=[SEAL])
        say(store, 2, [("undo", (1, 1)), ("add", ROW, COUNT, 2)])
        # The first one is sealed, so its sum may be all that is left of it.
        self.assertEqual(rests(store), [(0, 2), (2, 1), (0, 1)])

    def test_a_change_that_does_not_count(self):
        store = group(3, (ALL, (True, False, True), ALL, ALL))
        make(store, 0, parts=[(), SETUP, (), ()])
        make(store, 1, parts=[(), [("add", ROW, COUNT, 1)], (), ()], capability=own(1))
        self.assertEqual(rests(store, source="s1_t"), [(0, 2)])

    def test_adds_of_what_does_not_know_the_row(self):
        store = office()
        say(store, 1, [("add", ROW, COUNT, 1)], heard=[1, 0, 0])
        self.assertEqual(rests(store), [(0, 2)])

    def test_sealed_ones(self):
        store = office()
        say(store, 1, [("add", ROW, COUNT, 1)])
        make(store, 0, [("add", ROW, COUNT, 1)], publics=[SEAL])
        say(store, 1, [("add", ROW, COUNT, 1)])
        self.assertEqual(rests(store), [(0, 2), (1, 2), (0, 1)])

    def test_kept_sums_name_no_change(self):
        store = office()
        say(store, 1, [("add", ROW, COUNT, 1)])
        seal = make(store, 0, publics=[SEAL])
        say(store, 1, [("add", ROW, COUNT, 1)])
        before = rests(store)
        after = cut_at(store, seal)
        self.assertEqual(after.kept[0].sums, [((ROW, COUNT), 1)])
        self.assertEqual(rests(after), before)


class Letters(unittest.TestCase):
    def test_the_order_of_the_characters(self):
        store = office()
        say(store, 1, [("insert", ROW, LETTERS, None, "ad")])
        say(store, 2, [("insert", ROW, LETTERS, (1, 1, 0, 0), "bc")])
        say(store, 0, [("insert", ROW, LETTERS, None, "x")])
        # The text is xabcd.
        self.assertEqual(rests(store), [(0, 2), (0, 3), (1, 1), (0, 1), (2, 1)])

    def test_removed_ones(self):
        store = office(1)
        make(store, 0, [("insert", ROW, LETTERS, None, "a")])
        make(store, 0, [("insert", ROW, LETTERS, None, "bc")])
        make(store, 0, [("remove", (0, 3, 0, 0)), ("remove", (0, 4, 0, 0))])
        self.assertEqual(rests(store), [(0, 2), (0, 4)])

    def test_undone_ones(self):
        store = office(1)
        make(store, 0, [("insert", ROW, LETTERS, None, "a")])
        make(store, 0, [("insert", ROW, LETTERS, (0, 3, 0, 0), "b")])
        make(store, 0, [("undo", (0, 3))])
        self.assertEqual(rests(store), [(0, 2), (0, 4)])

    def test_sealed_ones_are_named(self):
        store = office()
        say(store, 1, [("insert", ROW, LETTERS, None, "a")])
        seal = make(store, 0, publics=[SEAL])
        say(store, 2, [("insert", ROW, LETTERS, (1, 1, 0, 0), "b")])
        self.assertEqual(rests(store), [(0, 2), (1, 1), (2, 1), (0, 1)])
        self.assertEqual(rests(cut_at(store, seal)), [(0, 2), (1, 1), (2, 1), (0, 1)])


class Capabilities(unittest.TestCase):
    def test_the_change_that_granted_follows(self):
        store = office()
        say(store, 1, [("row", T), ("put", (1, 1, 0), N, 4)])
        self.assertEqual(rests(store, (1, 1, 0)), [(1, 1), (0, 1), (0, 2)])
        say(store, 2, [("put", (1, 1, 0), W, "x")])
        self.assertEqual(rests(store, (1, 1, 0)), [(1, 1), (0, 1), (0, 2), (2, 1)])

    def test_several_grants_deep(self):
        store = Store(4)
        make(store, 0, SETUP[:1])
        make(store, 0, SETUP[1:2], publics=[grant(1)])
        make(store, 1, capability=(0, 2, 0), publics=[grant(3), grant(2)])
        make(store, 2, capability=(1, 1, 1), publics=[grant(3)])
        make(store, 3, [("row", (0, 1, 0))], capability=(2, 1, 0))
        make(store, 3, [("put", (3, 1, 0), (0, 2, 0), 1)], capability=(2, 1, 0))
        found = rests_on(store, verdicts(store), "s0_t", "3.1.0")
        self.assertEqual(found, [(3, 1), (2, 1), (1, 1), (0, 2), (0, 1)])

    def test_what_stands_already(self):
        store = Store(3)
        make(store, 0, [("table", "t"), ("column", (0, 1, 0), "a", "counter")], publics=[grant(1)])
        make(store, 1, [("row", (0, 1, 0))], capability=(0, 1, 0), publics=[grant(2)])
        make(store, 2, [("add", (1, 1, 0), (0, 1, 1), 1)], capability=(1, 1, 0))
        self.assertEqual(rests_on(store, verdicts(store), "s0_t", "1.1.0"), [(1, 1), (0, 1), (2, 1)])

    def test_a_sealed_change_is_not_followed(self):
        store = office()
        say(store, 1, [("row", T)])
        self.assertEqual(rests(store, (1, 1, 0)), [(1, 1), (0, 1), (0, 2)])
        make(store, 0, publics=[SEAL])
        self.assertEqual(rests(store, (1, 1, 0)), [(1, 1), (0, 2)])

    def test_a_seal_is_sealed(self):
        store = Store(2)
        make(store, 0, publics=[grant(1)])
        make(store, 0, [("table", "t"), ("column", (0, 2, 0), "c", "counter"), ("row", (0, 2, 0)),
                        ("add", (0, 2, 2), (0, 2, 1), 4)], publics=[SEAL])
        make(store, 1, [("add", (0, 2, 2), (0, 2, 1), 4)], capability=(0, 1, 0))
        self.assertEqual(rests(store, (0, 2, 2)), [(0, 2), (1, 1), (0, 1)])

    def test_a_sealed_change_is_not_followed_though_it_was_a_granting_one(self):
        store = Store(4)
        make(store, 0, publics=[grant(1)])
        make(store, 1, [("table", "t"), ("column", (1, 1, 0), "a", "integer")], capability=(0, 1, 0),
             publics=[grant(2)])
        make(store, 0, publics=[SEAL])
        make(store, 2, [("row", (1, 1, 0))], capability=(1, 1, 0))
        self.assertEqual(rests(store, (2, 1, 0)), [(2, 1), (1, 1), (0, 1)])
        make(store, 2, [("row", (1, 1, 0))], capability=(1, 1, 0))
        make(store, 0, publics=[SEAL])
        self.assertEqual(rests(store, (2, 1, 0)), [(2, 1), (1, 1)])

    def test_a_granting_change_is_named_though_it_does_not_count(self):
        store = Store(3)
        make(store, 0, SETUP[:1], publics=[grant(1, (NONE, ALL, ALL, ALL)), grant(2)])
        make(store, 2, [("row", (0, 1, 0))], capability=(0, 1, 1))
        self.assertEqual(rests(store, (2, 1, 0)), [(2, 1), (0, 1)])

    def test_revoked_ones(self):
        store = office()
        say(store, 1, [("row", T)])
        say(store, 0, publics=[revoke(own(1))])
        self.assertEqual(rests(store, (1, 1, 0)), [(1, 1), (0, 1), (0, 2)])


class BehindACut(unittest.TestCase):
    def kept(self, capabilities):
        store = Store(3)
        store.cut = [3, 2, 1]
        store.capabilities = capabilities
        acts = [((1, 1, 0), ("table", "t")), ((0, 2, 0), ("column", (1, 1, 0), "a", "integer")),
                ((0, 2, 1), ("column", (1, 1, 0), "c", "counter")), ((2, 1, 0), ("row", (1, 1, 0))),
                ((1, 2, 0), ("put", (2, 1, 0), (0, 2, 0), 5))]
        store.kept[0] = Kept(acts, [(((2, 1, 0), (0, 2, 1)), 7)], [])
        return store

    def test_what_is_kept_is_named_and_not_followed(self):
        store = self.kept([((0, 1, 0), None, 1, EVERYTHING)])
        self.assertEqual(rests(store, (2, 1, 0)), [(2, 1), (1, 1), (0, 2), (1, 2)])

    def test_the_granting_changes_of_a_kept_capability(self):
        store = self.kept([((0, 1, 0), None, 1, EVERYTHING), ((1, 1, 5), (0, 1, 0), 2, EVERYTHING)])
        make(store, 2, [("put", (2, 1, 0), (0, 2, 0), 6), ("add", (2, 1, 0), (0, 2, 1), 1)], capability=(1, 1, 5))
        self.assertEqual(rests(store, (2, 1, 0)), [(2, 1), (1, 1), (0, 2), (2, 2), (0, 1)])

    def test_a_parent_that_is_not_kept(self):
        store = self.kept([((0, 1, 0), (1, 2, 5), 1, EVERYTHING)])
        make(store, 1, [("row", (1, 1, 0))], capability=(0, 1, 0))
        self.assertEqual(rests(store, (1, 3, 0)), [(1, 3), (0, 1), (1, 2), (1, 1), (0, 2)])

    def test_a_row_behind_the_cut(self):
        store = self.kept([((0, 1, 0), None, 1, EVERYTHING)])
        make(store, 1, [("row", (1, 1, 0))], capability=(0, 1, 0), publics=[grant(2)])
        make(store, 2, [("put", (1, 3, 0), (0, 2, 0), 1)], capability=(1, 3, 0))
        self.assertEqual(rests(store, (1, 3, 0)), [(1, 3), (0, 1), (1, 1), (0, 2), (2, 2)])


def plainly(store, allowed, name, row):
    """Tells again what point 86 says."""
    space, spot = int(name[1]), parse_spot(row)
    sheet, found = Sheet(store, allowed, space), []
    table = [table for table in sheet.tables if sheet.act_of(table)[1] == name[3:]][0]
    source = [source for source in sources(store, allowed, space) if source.name == name][0]
    seals = allowed_seals(store, allowed)

    def sealed(name):
        change = store.find(name)
        return change is None or change in seals or any(in_past(name, seal) for seal in seals)

    def note(name):
        if name not in found:
            found.append(name)
        if not sealed(name):
            capability = store.find(name).capability
            while capability is not None:
                if capability[:2] not in found:
                    found.append(capability[:2])
                change = store.find(capability[:2])
                kept = [entry[1] for entry in store.capabilities if entry[0] == capability]
                capability = kept[0] if kept else change.capability

    note(spot[:2])
    note(table[:2])
    for word in source.columns[1:]:
        column = [column for column in sheet.columns[table] if sheet.act_of(column)[2] == word][0]
        note(column[:2])
        if sheet.holds(column) == "counter":
            for other, act in sheet.acts:
                if act[:3] == ("add", spot, column) and not sealed(other[:2]):
                    change, names = store.find(other[:2]), [spot[:2], column[:2]]
                    knowing = [store.find(name) is None or in_past(name, change) or name == change.name()
                               for name in names]
                    if all(knowing) and all(name != change.name() or part < other for name, part in zip(
                            names, [spot, column])):
                        note(other[:2])
        elif sheet.holds(column) == "letters":
            for mark, character, shows in characters(store, allowed, space, spot, column):
                if shows:
                    note(mark[:2])
        elif sheet.writes(spot, column):
            note(sheet.counted(spot, column)[:2])
    return found


class Random(unittest.TestCase):
    def test_random_stores(self):
        many = 0
        for seed in range(40):
            chance = random.Random(seed)
            store = random_world(chance, chance.choice([1, 3, 4])).store
            seals = allowed_seals(store, verdicts(store))
            told = []
            for one in [store] + [cut_at(store, seal) for seal in seals[-2:]]:
                allowed = verdicts(one)
                told.append({})
                for source in sources(one, allowed, 0) + sources(one, allowed, 1):
                    for row in source.rows:
                        found = rests_on(one, allowed, source.name, row[0])
                        self.assertEqual(found, plainly(one, allowed, source.name, row[0]))
                        told[-1][row[0], source.name] = found
                        many += len(found)
            # Cutting the past away changes nothing of what is told.
            for other in told[1:]:
                self.assertEqual(other, told[0])
        self.assertGreater(many, 500)


if __name__ == "__main__":
    unittest.main()
