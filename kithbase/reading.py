"""How data are read from bytes.

Each function is passed a Reader, and reads one thing at the place where it is.
"""

from kithbase.changes import Change
from kithbase.errors import DamagedPacket
from kithbase.forms import ACTS, HOLDS
from kithbase.store import SPACES, Kept, Store

MOST_BYTES = 60
# The characters of strings, but the newline: those before the one that must not occur, and those behind it.
FIRST_CHARACTERS = " !\"#$"
LAST_CHARACTERS = ("&'()*+,-./0123456789:;<=>?@ABCDEFGHIJKLMNOPQRSTUVWXYZ"
                   "[\\]^_`abcdefghijklmnopqrstuvwxyz{|}~")


class Reader:
    """Reads a list of bytes from the front."""

    def __init__(self, data):
        self.given = list(data)
        self.at = 0

    def read_number(self):
        """Reads a natural number."""
        return next_number(self)

    def read_integer(self):
        """Reads an integer."""
        negative = next_boolean(self)
        number = next_number(self)
        if negative and number == 0:
            raise DamagedPacket("zero is not negative")
        return -number if negative else number

    def read_string(self):
        """Reads a string."""
        return "".join(next_list(self, _next_character))

    def read_value(self):
        """Reads a value."""
        kind = next_number(self)
        if kind == 0:
            return None
        if kind == 1:
            return next_boolean(self)
        if kind == 2:
            return self.read_integer()
        if kind == 3:
            return self.read_string()
        raise DamagedPacket("there is no such kind of a value")

    def read_act(self):
        """Reads an act."""
        number = next_number(self)
        if number >= len(ACTS):
            raise DamagedPacket("there is no such act")
        word, forms = ACTS[number]
        fields = [word]
        for form in forms:
            read_field = FIELDS[form]
            fields.append(read_field(self))
        return tuple(fields)

    def read_change(self):
        """Reads a change."""
        author, number = _next_numbers(self, 2)
        heard = next_list(self, next_number)
        capability = next_optional(self, _next_spot)
        publics = next_list(self, _next_public)
        parts = [next_optional(self, _next_part) for space in range(SPACES)]
        return Change(author, number, heard, capability, publics, parts)

    def read_kept(self):
        """Reads what is kept of a space."""
        acts = next_list(self, _next_kept_act)
        sums = next_list(self, _next_kept_sum)
        return Kept(acts, sums, next_list(self, _next_kept_text))

    def read_capability(self):
        """Reads what is kept of a capability."""
        capability = _next_spot(self)
        parent = next_optional(self, _next_spot)
        holder = next_number(self)
        return (capability, parent, holder, _next_rights(self))

    def read_store(self):
        """Reads a store."""
        cut = next_list(self, next_number)
        if not 1 <= len(cut) <= 6:
            raise DamagedPacket("there is no network of so many members")
        store = Store(len(cut))
        store.cut = cut
        store.capabilities = next_list(self, next_capability)
        store.kept = [next_optional(self, next_kept) for space in range(SPACES)]
        for author in range(store.members):
            for change in next_list(self, next_change):
                if change.author != author or change.number != store.count(author) + 1:
                    raise DamagedPacket("a change stands in another place than its own")
                store.add(change)
        return store

    def end(self):
        """Checks that all bytes have been read."""
        if self.at != len(self.given):
            raise DamagedPacket("there are bytes behind the end")


def next_number(reader):
    """Reads a natural number."""
    start = reader.at
    end = start
    while end < len(reader.given) and reader.given[end] >= 128:
        end += 1
    if end == len(reader.given) or end - start >= MOST_BYTES or (end > start and reader.given[end] == 0):
        raise DamagedPacket("a number is not in its written form")
    reader.at = end + 1
    number = 0
    for byte in reversed(reader.given[start:end + 1]):
        number = number * 128 + byte % 128
    return number


def next_boolean(reader):
    """Reads a boolean."""
    number = next_number(reader)
    if number > 1:
        raise DamagedPacket("there is no such boolean")
    return number == 1


def next_list(reader, read):
    """Reads a list, where `read` is the function that reads a thing in it."""
    many = next_number(reader)
    if many > len(reader.given) - reader.at:
        raise DamagedPacket("a list has more items than there are bytes")
    return [read(reader) for _ in range(many)]


def next_optional(reader, read):
    """Reads something optional, where `read` is the function that reads the thing itself."""
    return read(reader) if next_boolean(reader) else None


def next_name(reader):
    """Reads a name."""
    return _next_numbers(reader, 2)


def next_change(reader):
    """Reads a change."""
    return reader.read_change()


def next_kept(reader):
    """Reads what is kept of a space."""
    return reader.read_kept()


def next_capability(reader):
    """Reads what is kept of a capability."""
    return reader.read_capability()


def _next_numbers(reader, many):
    """Reads so many natural numbers."""
    return tuple([next_number(reader) for _ in range(many)])


def _next_spot(reader):
    """Reads a spot."""
    return _next_numbers(reader, 3)


def _next_mark(reader):
    """Reads a mark."""
    return _next_numbers(reader, 4)


def _next_spots(reader):
    """Reads a list of spots."""
    return tuple(next_list(reader, _next_spot))


def _next_optional_spot(reader):
    """Reads an optional spot."""
    return next_optional(reader, _next_spot)


def _next_optional_mark(reader):
    """Reads an optional mark."""
    return next_optional(reader, _next_mark)


def _next_character(reader):
    """Reads a character."""
    code = next_number(reader)
    if code == 10:
        return "\n"
    place = code - 32
    if 0 <= place < len(FIRST_CHARACTERS):
        return FIRST_CHARACTERS[place]
    place = place - len(FIRST_CHARACTERS) - 1
    if 0 <= place < len(LAST_CHARACTERS):
        return LAST_CHARACTERS[place]
    raise DamagedPacket("there is no such character in strings")


def _next_string(reader):
    """Reads a string."""
    return reader.read_string()


def _next_integer(reader):
    """Reads an integer."""
    return reader.read_integer()


def _next_value(reader):
    """Reads a value."""
    return reader.read_value()


def _next_holds(reader):
    """Reads what a column holds."""
    number = next_number(reader)
    if number < len(HOLDS):
        return HOLDS[number]
    if number == len(HOLDS):
        return ("refer", _next_spot(reader))
    raise DamagedPacket("there is no such kind of a column")


def _next_rights(reader):
    """Reads the rights for all spaces."""
    return tuple([_next_triple(reader) for space in range(SPACES)])


def _next_triple(reader):
    """Reads the rights for a space."""
    return tuple([next_boolean(reader) for _ in range(3)])


def _next_public(reader):
    """Reads a public act."""
    number = next_number(reader)
    if number == 0:
        member = next_number(reader)
        return ("grant", member, _next_rights(reader))
    if number == 1:
        return ("revoke", _next_optional_spot(reader))
    if number == 2:
        return ("seal",)
    raise DamagedPacket("there is no such public act")


def _next_act(reader):
    """Reads an act."""
    return reader.read_act()


def _next_part(reader):
    """Reads a part of a change."""
    return next_list(reader, _next_act)


def _next_kept_act(reader):
    """Reads a kept act."""
    spot = _next_spot(reader)
    return (spot, reader.read_act())


def _next_cell(reader):
    """Reads a row and a column."""
    row = _next_spot(reader)
    return (row, _next_spot(reader))


def _next_kept_sum(reader):
    """Reads a kept sum."""
    cell = _next_cell(reader)
    return (cell, reader.read_integer())


def _next_kept_text(reader):
    """Reads the kept characters of a cell."""
    cell = _next_cell(reader)
    return (cell, next_list(reader, _next_kept_character))


def _next_kept_character(reader):
    """Reads a kept character."""
    mark = _next_mark(reader)
    return (mark, _next_character(reader))


FIELDS = {"string": _next_string, "spot": _next_spot, "spots": _next_spots, "holds": _next_holds,
          "value": _next_value, "integer": _next_integer, "optional spot": _next_optional_spot,
          "optional mark": _next_optional_mark, "mark": _next_mark, "name": next_name}
