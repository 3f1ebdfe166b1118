"""Points 34 to 38: cells with letters."""

import unittest

from builders import NONE, SEAL, WRITE, group, make, own, revoke, say
from kithbase.letters import characters, text_of
from kithbase.rights import verdicts
from kithbase.store import Kept, Store

TABLE, COLUMN, ROW = (0, 2, 0), (0, 2, 1), (0, 2, 2)
OTHER_COLUMN, OTHER_ROW = (0, 2, 3), (0, 2, 4)
SETUP = [("table", "t"), ("column", TABLE, "c", "letters"), ("row", TABLE), ("column", TABLE, "d", "letters"),
         ("row", TABLE)]
# What somebody had heard who knows the cells and nothing else.
START = (2, 0, 0)


def insert(text, behind=None, row=ROW, column=COLUMN):
    return ("insert", row, column, behind, text)


def remove(*mark):
    return ("remove", mark)


def undo(*name):
    return ("undo", name)


def notebook(members=3, rights=None):
    """Returns a store in which all members may write a cell with letters."""
    store = group(members) if rights is None else group(members, rights)
    make(store, 0, SETUP)
    return store


def text(store, row=ROW, column=COLUMN):
    return text_of(store, verdicts(store), 0, row, column)


def line(store, row=ROW, column=COLUMN):
    """Returns the string of all characters of the cell, those that do not show as capitals."""
    found = characters(store, verdicts(store), 0, row, column)
    return "".join(character if shows else character.upper() for mark, character, shows in found)


class Inserting(unittest.TestCase):
    def test_an_empty_cell(self):
        store = notebook()
        self.assertEqual(characters(store, verdicts(store), 0, ROW, COLUMN), [])
        self.assertEqual(text(store), "")

    def test_marks_and_characters(self):
        store = notebook()
        say(store, 1, [("row", TABLE), insert("ab")])
        say(store, 2, [insert("c", (1, 1, 1, 0))])
        self.assertEqual(characters(store, verdicts(store), 0, ROW, COLUMN),
                         [((1, 1, 1, 0), "a", True), ((2, 1, 0, 0), "c", True), ((1, 1, 1, 1), "b", True)])
        self.assertEqual(text(store), "acb")

    def test_at_the_beginning_in_the_middle_and_at_the_end(self):
        store = notebook()
        say(store, 1, [insert("abc")])
        say(store, 1, [insert("x")])
        say(store, 1, [insert("y", (1, 1, 0, 1))])
        say(store, 1, [insert("z", (1, 1, 0, 2))])
        self.assertEqual(text(store), "xabycz")

    def test_several_inserts_of_one_change(self):
        store = notebook()
        say(store, 1, [insert("abc"), insert("de", (1, 1, 0, 0)), insert("f", (1, 1, 1, 1)), insert("g")])
        self.assertEqual(text(store), "gadefbc")

    def test_empty_texts(self):
        store = notebook()
        say(store, 1, [insert(""), insert("ab"), insert("", (1, 1, 1, 0)), insert("c", (1, 1, 0, 0)), insert("")])
        self.assertEqual(text(store), "ab")

    def test_inserts_at_one_place_by_several_members(self):
        store = notebook()
        make(store, 0, [insert("mn")])
        for member in [2, 1]:
            say(store, member, [insert("ab" if member == 1 else "cd", (0, 3, 0, 0))], heard=(3, 0, 0))
        # The later one in the order of changes stands directly behind the character.
        self.assertEqual(text(store), "mcdabn")
        make(store, 0, [insert("xy", (0, 3, 0, 0))], heard=(3, 0, 0))
        self.assertEqual(text(store), "mcdabxyn")

    def test_concurrent_inserts_at_the_beginning(self):
        store = notebook()
        for member in [1, 2]:
            say(store, member, [insert("ab" if member == 1 else "cd")], heard=START)
        self.assertEqual(text(store), "cdab")

    def test_runs_of_members_do_not_mix(self):
        store = notebook()
        say(store, 1, [insert("a")], heard=START)
        say(store, 2, [insert("x")], heard=START)
        for k in range(3):
            say(store, 1, [insert("bcd"[k], (1, k + 1, 0, 0))], heard=(2, k + 1, 0))
            say(store, 2, [insert("yzw"[k], (2, k + 1, 0, 0))], heard=(2, 0, k + 1))
        self.assertEqual(text(store), "xyzwabcd")

    def test_each_cell_by_itself(self):
        store = notebook()
        say(store, 1, [insert("a"), insert("b", None, OTHER_ROW), insert("c", None, ROW, OTHER_COLUMN)])
        self.assertEqual([text(store), text(store, OTHER_ROW), text(store, ROW, OTHER_COLUMN)], ["a", "b", "c"])
        self.assertEqual(text(store, OTHER_ROW, OTHER_COLUMN), "")

    def test_each_space_by_itself(self):
        store = group(2)
        make(store, 0, parts=[SETUP, SETUP, [], []])
        make(store, 1, capability=own(1), parts=[[insert("a")], [insert("b"), insert("c")], None, []])
        allowed = verdicts(store)
        self.assertEqual([text_of(store, allowed, space, ROW, COLUMN) for space in range(4)], ["a", "cb", "", ""])

    def test_unknown_parts(self):
        store = notebook()
        say(store, 1, [insert("ab")])
        say(store, 2, [insert("c", (1, 1, 0, 0))])
        store.changes[1][0] = store.changes[1][0].with_parts([None, (), (), ()])
        self.assertEqual(line(store), "")


class Skipping(unittest.TestCase):
    def test_who_does_not_know_the_row_or_the_column(self):
        store = notebook()
        row, column = (0, 3, 0), (0, 3, 1)
        make(store, 0, [("row", TABLE), ("column", TABLE, "e", "letters")])
        for heard, expected in [((2, 0, 0), ""), ((3, 0, 0), "a")]:
            for cell in [(row, COLUMN), (ROW, column), (row, column)]:
                other = store.copy()
                say(other, 1, [insert("a", None, cell[0], cell[1])], heard=heard)
                self.assertEqual(line(other, cell[0], cell[1]), expected)

    def test_who_makes_the_row_later_in_the_change(self):
        store = notebook()
        say(store, 1, [insert("a", None, (1, 1, 1)), ("row", TABLE), insert("b", None, (1, 1, 1))])
        self.assertEqual(line(store, (1, 1, 1)), "b")

    def test_characters_that_are_not_there(self):
        store = notebook()
        say(store, 1, [insert("ab"), insert("c", None, OTHER_ROW), insert("d", None, ROW, OTHER_COLUMN)])
        for mark in [(1, 1, 0, 2), (1, 1, 0, -1), (1, 1, 1, 0), (1, 1, 2, 0), (1, 1, 9, 0), (0, 2, 0, 0), (0, 1, 0, 0)]:
            other = store.copy()
            say(other, 2, [insert("x", mark)])
            self.assertEqual(line(other), "ab", mark)
        say(store, 2, [insert("x", (1, 1, 0, 1))])
        self.assertEqual(line(store), "abx")

    def test_characters_that_the_insert_does_not_know(self):
        store = notebook()
        say(store, 1, [insert("ab")])
        say(store, 2, [insert("x", (1, 1, 0, 0))], heard=START)
        # In the order of changes this comes later than what it stands behind, and yet does not know it.
        say(store, 2, [insert("y", (1, 1, 0, 0))], heard=(2, 0, 1))
        self.assertEqual(line(store), "ab")

    def test_the_own_change(self):
        store = notebook()
        say(store, 1, [insert("x", (1, 1, 0, 0)), insert("y", (1, 1, 2, 0)), insert("z")])
        self.assertEqual(line(store), "z")

    def test_what_stands_behind_a_skipped_one_is_skipped(self):
        store = notebook()
        say(store, 1, [insert("a", (1, 1, 5, 0)), insert("b", (1, 1, 0, 0)), insert("c")])
        self.assertEqual(line(store), "c")


class Hiding(unittest.TestCase):
    def test_removing(self):
        store = notebook()
        say(store, 1, [insert("abc")])
        say(store, 2, [remove(1, 1, 0, 1), remove(1, 1, 0, 7), remove(1, 1, 3, 0)])
        self.assertEqual((line(store), text(store)), ("aBc", "ac"))

    def test_removing_in_the_same_change(self):
        store = notebook()
        say(store, 1, [remove(1, 1, 1, 0), insert("abc"), remove(1, 1, 1, 2)])
        self.assertEqual(line(store), "abC")

    def test_removing_what_is_not_known(self):
        store = notebook()
        say(store, 1, [insert("abc")])
        say(store, 2, [remove(1, 1, 0, 0)], heard=START)
        self.assertEqual(line(store), "abc")

    def test_removing_twice(self):
        store = notebook()
        say(store, 1, [insert("ab")])
        say(store, 2, [remove(1, 1, 0, 0)], heard=(2, 1, 0))
        say(store, 1, [remove(1, 1, 0, 0)], heard=(2, 1, 0))
        self.assertEqual(line(store), "Ab")
        make(store, 0, [undo(2, 1)])
        self.assertEqual(line(store), "Ab")
        make(store, 0, [undo(1, 2)])
        self.assertEqual(line(store), "ab")

    def test_inserting_behind_removed_characters(self):
        store = notebook()
        say(store, 1, [insert("ab")])
        say(store, 2, [remove(1, 1, 0, 0)])
        say(store, 1, [insert("x", (1, 1, 0, 0))])
        self.assertEqual((line(store), text(store)), ("Axb", "xb"))

    def test_undoing_what_inserted(self):
        store = notebook()
        say(store, 1, [insert("ab")])
        say(store, 2, [insert("x", (1, 1, 0, 0))])
        make(store, 0, [undo(1, 1)])
        self.assertEqual((line(store), text(store)), ("AxB", "x"))
        say(store, 2, [insert("y", (1, 1, 0, 1))])
        self.assertEqual(line(store), "AxBy")
        make(store, 0, [undo(0, 3)])
        self.assertEqual(line(store), "axby")

    def test_undoing_what_removed(self):
        store = notebook()
        say(store, 1, [insert("ab")])
        say(store, 2, [remove(1, 1, 0, 0)])
        make(store, 0, [undo(2, 1)])
        self.assertEqual(line(store), "ab")

    def test_removals_that_do_not_count(self):
        store = notebook()
        say(store, 1, [insert("ab")])
        make(store, 2, [remove(1, 1, 0, 0)], capability=own(1))
        self.assertEqual(line(store), "ab")

    def test_characters_of_changes_that_do_not_count(self):
        store = notebook()
        # This capability is not its author's, so the change is not allowed.
        make(store, 2, [insert("ab")], capability=own(1))
        say(store, 1, [insert("x", (2, 1, 0, 0))])
        self.assertEqual((line(store), text(store)), ("AxB", "x"))

    def test_characters_of_who_may_not_write(self):
        store = notebook(3, (NONE, WRITE, WRITE, WRITE))
        say(store, 1, [insert("ab")])
        make(store, 0, [insert("x", (1, 1, 0, 0)), insert("y", (1, 1, 0, 1))])
        self.assertEqual(line(store), "AxBy")

    def test_verdicts_move_no_character(self):
        store = notebook()
        say(store, 1, [insert("ab")])
        say(store, 2, [insert("cd", (1, 1, 0, 0))])
        say(store, 1, [insert("ef", (2, 1, 0, 1))], heard=(2, 1, 1))
        self.assertEqual(line(store), "acdefb")
        # The founder revokes member 1, and had heard of only one of its changes.
        make(store, 0, [], heard=(2, 1, 1), publics=[revoke(own(1))])
        self.assertEqual(line(store), "acdEFb")
        make(store, 0, [], publics=[revoke(own(2))], heard=(3, 2, 1))
        self.assertEqual(line(store), "acdEFb")


class Sealing(unittest.TestCase):
    def test_inserts_beside_a_seal_are_left_out(self):
        store = notebook()
        say(store, 1, [insert("ab")])
        make(store, 0, heard=(2, 1, 0), publics=[SEAL])
        say(store, 2, [insert("x", (1, 1, 0, 0))], heard=(2, 1, 0))
        self.assertEqual(line(store), "ab")
        say(store, 2, [insert("y", (1, 1, 0, 0))])
        self.assertEqual(line(store), "ayb")

    def test_inserts_of_the_seal_itself(self):
        store = notebook()
        make(store, 0, [insert("ab")], publics=[SEAL])
        make(store, 0, [insert("cd")], publics=[SEAL])
        self.assertEqual(line(store), "cdab")

    def test_inserts_that_do_not_count_and_are_related_to_all_seals(self):
        store = notebook()
        make(store, 2, [insert("ab")], capability=own(1))
        make(store, 0, publics=[SEAL])
        make(store, 2, [insert("cd")], capability=own(1))
        self.assertEqual(line(store), "CDAB")
        make(store, 0, heard=(3, 0, 1), publics=[SEAL])
        # The second seal had not heard of the last change.
        self.assertEqual(line(store), "AB")

    def test_behind_characters_that_are_undone_and_closed(self):
        store = notebook()
        say(store, 1, [insert("ab")])
        make(store, 0, [undo(1, 1)])
        say(store, 1, [insert("x", (1, 1, 0, 0))])
        make(store, 0, publics=[SEAL])
        say(store, 2, [insert("y", (1, 1, 0, 0)), insert("z", (1, 1, 0, 1)), insert("w", (1, 2, 0, 0))])
        self.assertEqual(line(store), "AxwB")

    def test_behind_characters_that_are_removed_and_closed(self):
        store = notebook()
        say(store, 1, [insert("abc")])
        say(store, 2, [remove(1, 1, 0, 0)])
        make(store, 0, publics=[SEAL])
        say(store, 1, [remove(1, 1, 0, 1)])
        say(store, 2, [insert("x", (1, 1, 0, 0)), insert("y", (1, 1, 0, 1)), insert("z", (1, 1, 0, 2))])
        # Only the first removal is closed for the inserts.
        self.assertEqual(line(store), "ABycz")

    def test_closed_removals_that_take_no_effect(self):
        store = notebook()
        say(store, 1, [insert("abc")])
        say(store, 2, [remove(1, 1, 0, 0)])
        make(store, 0, [undo(2, 1)])
        make(store, 2, [remove(1, 1, 0, 1)], capability=own(1))
        make(store, 0, publics=[SEAL])
        say(store, 2, [insert("x", (1, 1, 0, 0)), insert("y", (1, 1, 0, 1))])
        self.assertEqual(line(store), "axbyc")

    def test_removals_that_do_not_know_the_character(self):
        store = notebook()
        say(store, 1, [insert("ab")])
        say(store, 2, [remove(1, 1, 0, 0)], heard=START)
        make(store, 0, publics=[SEAL])
        say(store, 2, [insert("x", (1, 1, 0, 0))])
        self.assertEqual(line(store), "axb")

    def test_a_seal_that_the_insert_had_not_heard_closes_nothing_for_it(self):
        store = notebook()
        say(store, 1, [insert("ab"), remove(1, 1, 0, 0)])
        say(store, 2, [insert("x", (1, 1, 0, 0))])
        make(store, 0, publics=[SEAL])
        self.assertEqual(line(store), "Axb")
        say(store, 2, [insert("y", (1, 1, 0, 0))])
        self.assertEqual(line(store), "Axb")

    def test_the_seal_had_heard_the_character_and_not_the_removal(self):
        store = notebook()
        say(store, 1, [insert("ab")])
        make(store, 0, publics=[SEAL])
        say(store, 1, [remove(1, 1, 0, 0)])
        say(store, 2, [insert("x", (1, 1, 0, 0))])
        self.assertEqual(line(store), "Axb")


class Cut(unittest.TestCase):
    def store(self):
        store = Store(2)
        store.cut = [3, 2]
        store.capabilities = [((0, 1, 0), None, 1, ((True,) * 3,) * 4)]
        acts = [((0, 2, k), act) for k, act in enumerate(SETUP)]
        pairs = [((1, 1, 0, 0), "a"), ((0, 3, 0, 2), "b"), ((1, 2, 0, 1), "c")]
        store.kept[0] = Kept(acts, [], [((ROW, COLUMN), pairs)])
        return store

    def test_kept_characters(self):
        store = self.store()
        self.assertEqual(characters(store, verdicts(store), 0, ROW, COLUMN),
                         [((1, 1, 0, 0), "a", True), ((0, 3, 0, 2), "b", True), ((1, 2, 0, 1), "c", True)])
        self.assertEqual(text(store), "abc")
        self.assertEqual(text(store, OTHER_ROW), "")

    def test_later_inserts(self):
        store = self.store()
        acts = [insert("x"), insert("y", (1, 1, 0, 0)), insert("z", (1, 2, 0, 1)), insert("v", (0, 3, 0, 0)),
                insert("w", (0, 3, 0, 2))]
        make(store, 0, acts)
        self.assertEqual(line(store), "xaybwcz")

    def test_removing_kept_characters(self):
        store = self.store()
        make(store, 0, [remove(0, 3, 0, 2), remove(0, 3, 0, 1)])
        self.assertEqual(line(store), "aBc")
        make(store, 1, [insert("x", (0, 3, 0, 2))], capability=(0, 1, 0))
        self.assertEqual(line(store), "aBxc")
        make(store, 0, publics=[SEAL])
        make(store, 1, [insert("y", (0, 3, 0, 2)), insert("z", (1, 1, 0, 0))], capability=(0, 1, 0))
        self.assertEqual(line(store), "azBxc")
        make(store, 0, [undo(0, 4), undo(1, 1)])
        self.assertEqual(line(store), "azBxc")

    def test_who_had_not_heard_what_is_cut_away(self):
        store = self.store()
        make(store, 1, [insert("x")], heard=(2, 0), capability=(0, 1, 0))
        make(store, 0, [insert("y")], heard=(0, 1))
        self.assertEqual(line(store), "abc")
        make(store, 0, [insert("z")])
        self.assertEqual(line(store), "zabc")

    def test_where_it_is_not_known_what_is_kept(self):
        store = self.store()
        store.kept[0] = None
        make(store, 0, [insert("x"), insert("y", (1, 1, 0, 0))])
        self.assertEqual(line(store), "x")

    def test_kept_characters_of_another_space(self):
        store = self.store()
        self.assertEqual(text_of(store, verdicts(store), 1, ROW, COLUMN), "")


class NothingChanges(unittest.TestCase):
    def test_no_call_changes_the_store_or_the_verdicts(self):
        store = notebook()
        say(store, 1, [insert("ab"), remove(1, 1, 0, 0)])
        make(store, 0, [undo(1, 1)], publics=[SEAL])
        allowed = verdicts(store)
        before = (store.data(), {name: allowed[name] for name in allowed})
        found = characters(store, allowed, 0, ROW, COLUMN)
        kept = list(found)
        found.clear()
        text_of(store, allowed, 0, ROW, COLUMN)
        self.assertEqual(characters(store, allowed, 0, ROW, COLUMN), kept)
        self.assertEqual((store.data(), allowed), before)

    def test_later_changes_to_a_kept_list(self):
        store = Store(1)
        store.cut = [2]
        store.kept[0] = Kept([((0, 2, k), act) for k, act in enumerate(SETUP)], [],
                             [((ROW, COLUMN), [((0, 2, 5, 0), "a")])])
        characters(store, verdicts(store), 0, ROW, COLUMN).clear()
        self.assertEqual(text(store), "a")


if __name__ == "__main__":
    unittest.main()
