"""How data are written as bytes, which are lists of integers from 0 to 255."""

from kithbase.forms import ACTS, HOLDS


def write_number(number):
    """Returns the bytes of a natural number: seven bits in each, the lowest first."""
    data = []
    while number >= 128:
        data.append(number % 128 + 128)
        number = number // 128
    return data + [number]


def write_integer(number):
    """Returns the bytes of an integer."""
    return [1 if number < 0 else 0] + write_number(abs(number))


def write_string(text):
    """Returns the bytes of a string."""
    return write_list(text, _write_character)


def write_value(value):
    """Returns the bytes of a value."""
    if value is None:
        return [0]
    if isinstance(value, bool):
        return [1] + write_boolean(value)
    if isinstance(value, int):
        return [2] + write_integer(value)
    return [3] + write_string(value)


def write_act(act):
    """Returns the bytes of an act."""
    number = [word for word, forms in ACTS].index(act[0])
    data = write_number(number)
    for form, field in zip(ACTS[number][1], act[1:]):
        write_field = FIELDS[form]
        data.extend(write_field(field))
    return data


def write_change(change):
    """Returns the bytes of a change."""
    data = write_numbers((change.author, change.number)) + write_list(change.heard, write_number)
    data.extend(_write_capability_name(change.capability) + write_list(change.publics, _write_public))
    for part in change.parts:
        data.extend(write_optional(part, _write_part))
    return data


def write_kept(kept):
    """Returns the bytes of what is kept of a space."""
    data = write_list(kept.acts, _write_kept_act) + write_list(kept.sums, _write_kept_sum)
    return data + write_list(kept.texts, _write_kept_text)


def write_capability(entry):
    """Returns the bytes of what is kept of a capability."""
    capability, parent, holder, rights = entry
    return write_numbers(capability) + _write_capability_name(parent) + write_number(holder) + _write_rights(rights)


def write_store(store):
    """Returns the bytes of a store."""
    data = write_list(store.cut, write_number) + write_list(store.capabilities, write_capability)
    for kept in store.kept:
        data.extend(write_optional(kept, write_kept))
    for changes in store.changes:
        data.extend(write_list(changes, write_change))
    return data


def write_boolean(value):
    """Returns the bytes of a boolean."""
    return [1 if value else 0]


def write_list(things, write):
    """Returns the bytes of a list, where `write` returns those of each thing in it."""
    data = write_number(len(things))
    for thing in things:
        data.extend(write(thing))
    return data


def write_optional(thing, write):
    """Returns the bytes of something optional, where `write` returns those of the thing itself."""
    return [0] if thing is None else [1] + write(thing)


def write_numbers(numbers):
    """Returns the bytes of several natural numbers one after another, such as a name, a spot or a mark."""
    data = []
    for number in numbers:
        data.extend(write_number(number))
    return data


def _write_character(character):
    """Returns the bytes of a character."""
    return write_number(ord(character))


def _write_optional_numbers(numbers):
    """Returns the bytes of an optional spot or mark."""
    return write_optional(numbers, write_numbers)


def _write_capability_name(capability):
    """Returns the bytes of the name of a capability."""
    return write_optional(capability, write_numbers)


def _write_spots(spots):
    """Returns the bytes of a list of spots."""
    return write_list(spots, write_numbers)


def _write_holds(holds):
    """Returns the bytes of what a column holds."""
    if isinstance(holds, tuple):
        return [len(HOLDS)] + write_numbers(holds[1])
    return [HOLDS.index(holds)]


def _write_rights(rights):
    """Returns the bytes of the rights for all spaces."""
    return [1 if right else 0 for triple in rights for right in triple]


def _write_public(act):
    """Returns the bytes of a public act."""
    if act[0] == "grant":
        return [0] + write_number(act[1]) + _write_rights(act[2])
    return [1] + _write_capability_name(act[1]) if act[0] == "revoke" else [2]


def _write_part(acts):
    """Returns the bytes of a part of a change."""
    return write_list(acts, write_act)


def _write_kept_act(pair):
    """Returns the bytes of a kept act."""
    return write_numbers(pair[0]) + write_act(pair[1])


def _write_kept_sum(pair):
    """Returns the bytes of a kept sum."""
    (row, column), total = pair
    return write_numbers(row) + write_numbers(column) + write_integer(total)


def _write_kept_text(pair):
    """Returns the bytes of the kept characters of a cell."""
    (row, column), characters = pair
    return write_numbers(row) + write_numbers(column) + write_list(characters, _write_kept_character)


def _write_kept_character(pair):
    """Returns the bytes of a kept character."""
    return write_numbers(pair[0]) + _write_character(pair[1])


FIELDS = {"string": write_string, "spot": write_numbers, "spots": _write_spots, "holds": _write_holds,
          "value": write_value, "integer": write_integer, "optional spot": _write_optional_numbers,
          "optional mark": _write_optional_numbers, "mark": write_numbers, "name": write_numbers}
