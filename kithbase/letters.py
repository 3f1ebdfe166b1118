"""The characters of cells that several members edit."""

from kithbase.rights import allowed_seals, heard_the_cut, is_sealed_in
from kithbase.undo import effective_acts, is_closed_for, knows, spots_and_acts, taking_effect


def characters(store, allowed, space, row, column):
    """Returns the list of triples (mark, character, shows) of the cell."""
    return characters_in(Lettering(store, allowed, space), row, column)


def text_of(store, allowed, space, row, column):
    """Returns the string of the characters of the cell that show."""
    return text_in(Lettering(store, allowed, space), row, column)


class Lettering:
    """What the characters of all cells of a space follow from, so that it is looked for only once."""

    def __init__(self, store, allowed, space):
        self.store = store
        self.seals = allowed_seals(store, allowed)
        self.takes = taking_effect(store, allowed, space)
        self.inserts = _inserts_by_cell(store, self.seals, space)
        self.removes = _removes_by_mark(store, effective_acts(store, allowed, space))
        self.texts = _kept_texts(store, space)


def _inserts_by_cell(store, seals, space):
    """Returns a dict with the list of pairs (spot, act) of the acts that may insert into a cell."""
    inserts = {}
    for change in store.all_changes():
        if heard_the_cut(store, change) and is_sealed_in(seals, change):
            for spot, act in spots_and_acts(change, space):
                if act[0] == "insert":
                    inserts.setdefault((act[1], act[2]), []).append((spot, act))
    return inserts


def _removes_by_mark(store, acts):
    """Returns a dict with the list of the spots of the acts that remove the character with a mark."""
    removes = {}
    for spot, act in acts:
        if act[0] == "remove" and knows(store, spot, act[1][:3]):
            removes.setdefault(act[1], []).append(spot)
    return removes


def _kept_texts(store, space):
    """Returns a dict with the list of the kept pairs (mark, character) of each cell."""
    kept = store.kept[space]
    return {} if kept is None else {cell: pairs for cell, pairs in kept.texts}


def lettered_cells(lettering):
    """Returns a dict with True for each cell that may have characters."""
    cells = {cell: True for cell in lettering.texts}
    for cell in lettering.inserts:
        cells[cell] = True
    return cells


def text_in(lettering, row, column):
    """Returns the string of the characters of the cell that show."""
    return "".join([character for mark, character, shows in characters_in(lettering, row, column) if shows])


def characters_in(lettering, row, column):
    """Returns the list of triples (mark, character, shows) of the cell."""
    kept = lettering.texts.get((row, column), [])
    known = {mark: character for mark, character in kept}
    # Each mark is followed by the next one of the line, and None stands for both ends of it.
    following = {None: None}
    _hang(following, None, [mark for mark, character in kept])
    for spot, act in lettering.inserts.get((row, column), []):
        if _may_insert(lettering, following, spot, act):
            marks = [(spot[0], spot[1], spot[2], index) for index in range(len(act[4]))]
            _hang(following, act[3], marks)
            for mark in marks:
                known[mark] = act[4][mark[3]]
    return [(mark, known[mark], _shows(lettering, mark)) for mark in _line(following)]


def _hang(following, behind, marks):
    """Puts the marks next to each other directly behind the mark `behind`. This modifies `following`."""
    rest = following[behind]
    for mark in marks:
        following[behind] = mark
        behind = mark
    following[behind] = rest


def _line(following):
    """Returns the list of the marks, each behind the one that it follows."""
    marks = []
    mark = following[None]
    while mark is not None:
        marks.append(mark)
        mark = following[mark]
    return marks


def _may_insert(lettering, following, spot, act):
    """True if the act that inserts is not skipped, where `following` has the marks of the list so far."""
    store = lettering.store
    if not knows(store, spot, act[1]) or not knows(store, spot, act[2]):
        return False
    behind = act[3]
    if behind is None:
        return True
    return behind in following and knows(store, spot, behind[:3]) and not _is_dead(lettering, spot, behind)


def _is_dead(lettering, spot, mark):
    """True if the character with the mark is dead for the act with the spot."""
    store, seals = lettering.store, lettering.seals
    change = store.find(spot[:2])
    if not is_closed_for(store, seals, change, mark[:2]):
        return False
    if not lettering.takes.get(mark[:2], True):
        return True
    return any(is_closed_for(store, seals, change, remove[:2]) for remove in lettering.removes.get(mark, []))


def _shows(lettering, mark):
    """True if the character with the mark shows."""
    # A change that is not in the store has its characters in the line only if they are kept.
    return lettering.takes.get(mark[:2], True) and mark not in lettering.removes
