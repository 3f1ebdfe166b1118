"""Names, spots and marks, and their written form."""

from kithbase.errors import InvalidName

DIGITS = "0123456789"
MOST_DIGITS = 15


def format_name(name):
    """Returns the written form of a name, a spot or a mark."""
    return ".".join([str(part) for part in name])


def parse_name(text):
    """Returns the name with this written form."""
    return _parse_parts(text, 2)


def parse_spot(text):
    """Returns the spot with this written form."""
    return _parse_parts(text, 3)


def parse_mark(text):
    """Returns the mark with this written form."""
    return _parse_parts(text, 4)


def _parse_parts(text, many):
    """Returns the tuple of so many integers that is written as `text`."""
    if not isinstance(text, str):
        raise InvalidName("only strings are written forms")
    parts = text.split(".")
    if len(parts) != many:
        raise InvalidName(f"the written form has not {many} parts")
    for part in parts:
        if not _is_part(part):
            raise InvalidName("a part of the written form is not a number as it is written")
    numbers = tuple([int(part) for part in parts])
    if numbers[1] < 1:
        raise InvalidName("the number of a change is at least 1")
    return numbers


def _is_part(text):
    """True if the text is a number as it is written: with few enough digits and no leading zero."""
    if text == "0":
        return True
    if not 1 <= len(text) <= MOST_DIGITS or text[0] == "0":
        return False
    # The method isdigit takes digits of other scripts, too.
    return all(character in DIGITS for character in text)
