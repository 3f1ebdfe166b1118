"""Logs: what a replica writes into its files, and what the files tell."""

from kithbase.codes import write_change, write_number, write_store
from kithbase.errors import DamagedPacket, UnfitPacket
from kithbase.packets import taking
from kithbase.reading import Reader
from kithbase.store import goes_on, is_whole

# What the records of a log begin with: the three of its start, in their order, and the note of a change.
TURN = 1
STORE = 3
STARTED = 2
CHANGE = 3
CHECKSUM_BYTES = 4


def write_record(data):
    """Returns the bytes of a record."""
    return write_number(len(data)) + list(data) + _tail(data)


def _tail(data):
    """Returns the bytes of the checksum, the most significant first."""
    total = checksum(data)
    return [total // 16777216, total // 65536 % 256, total // 256 % 256, total % 256]


def checksum(data):
    """Returns the checksum of bytes."""
    total = 7
    for byte in data:
        total = (31 * total + byte + 1) % 4294967296
    return total


def read_records(data):
    """Returns the list of the complete records at the front, and the number of bytes that they take."""
    found = _complete_records(data)
    return ([record for record, end in found], found[-1][1] if found else 0)


def _complete_records(data):
    """Returns the list of pairs of a complete record at the front and the number of bytes up to its end."""
    reader = Reader(data)
    found = []
    while True:
        record = _next_record(reader)
        if record is None:
            return found
        found.append((record, reader.at))


def _next_record(reader):
    """Returns the bytes of the next record, or None if it is not complete."""
    try:
        many = reader.read_number()
    except DamagedPacket:
        return None
    start, end = reader.at, reader.at + many
    record = reader.given[start:end]
    tail = reader.given[end:end + CHECKSUM_BYTES]
    # What is too short is not equal to its checksum either.
    if tail != _tail(record):
        return None
    reader.at = end + CHECKSUM_BYTES
    return record


def log_start(turn, store):
    """Returns the bytes of a log without notes."""
    first = write_record([TURN] + write_number(turn))
    return first + write_record([STORE] + write_store(store)) + write_record([STARTED])


def change_note(change):
    """Returns the bytes of the note of a change that a replica made."""
    return write_record([CHANGE] + write_change(change))


def packet_note(packet):
    """Returns the bytes of the note of a packet that a replica took."""
    return write_record(packet)


def read_log(data, members):
    """Returns what a file tells: the turn, the store, and the number of bytes of the complete records; or None."""
    found = _complete_records(data)
    records = [record for record, end in found]
    if len(records) < 3 or records[2] != [STARTED]:
        return None
    turn = _turn_of(records[0])
    store = _store_of(records[1], members)
    if turn is None or store is None:
        return None
    telling = Telling(store)
    size = found[2][1]
    for record, end in found[3:]:
        if not _takes_note(telling, record):
            break
        size = end
    return (turn, telling.store, size)


class Telling:
    """The store that a log tells up to some note, and whether it is whole."""

    def __init__(self, store):
        self.store = store
        self.whole = is_whole(store)


def _turn_of(record):
    """Returns the turn that the first record of a log tells, or None if it is not as it must be."""
    reader = Reader(record)
    try:
        word = reader.read_number()
        turn = reader.read_number()
        reader.end()
    except DamagedPacket:
        return None
    return turn if word == TURN else None


def _store_of(record, members):
    """Returns the store that the second record of a log tells, or None if it is not as it must be."""
    reader = Reader(record)
    try:
        word = reader.read_number()
        store = reader.read_store()
        reader.end()
    except DamagedPacket:
        return None
    return store if word == STORE and store.members == members else None


def _takes_note(telling, record):
    """Changes the store by a note and returns True, or returns False if the note is not as it must be."""
    if record[:1] == [CHANGE]:
        return _takes_change(telling, record)
    try:
        telling.store = taking(telling.store, record)
    except (DamagedPacket, UnfitPacket):
        return False
    telling.whole = True
    return True


def _takes_change(telling, record):
    """Adds the change of a note to the store and returns True, or returns False if it does not fit."""
    reader = Reader(record)
    try:
        reader.read_number()
        change = reader.read_change()
        reader.end()
    except DamagedPacket:
        return False
    store = telling.store
    if change.author >= store.members or change.number != store.count(change.author) + 1:
        return False
    store.add(change)
    # In a whole store only the new change can be wrong, so that not all of them have to be looked at each time.
    whole = goes_on(store, change) if telling.whole else is_whole(store)
    if not whole:
        store.changes[change.author].pop()
        return False
    telling.whole = True
    return True


def counting_file(first, second, members):
    """Returns 0 or 1 for that one of two files which counts, given what they contain, or None if neither does."""
    return counting_log(read_log(first, members), read_log(second, members))


def counting_log(first, second):
    """Returns 0 or 1 for that one of two files which counts, given what they tell, or None if neither does."""
    if first is None:
        return None if second is None else 1
    return 1 if second is not None and second[0] > first[0] else 0
