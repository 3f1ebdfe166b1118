"""The tokens of a question."""

from kithbase.errors import RefusedText

KEYWORDS = (
    "select", "distinct", "from", "where", "group", "by", "having", "order", "limit", "as", "join", "left", "on",
    "union", "all", "except", "intersect", "and", "or", "not", "is", "null", "true", "false", "in", "exists", "case",
    "when", "then", "else", "end", "count", "sum", "min", "max", "mod", "desc")
LETTERS = "abcdefghijklmnopqrstuvwxyz"
DIGITS = "0123456789"
OF_WORDS = "abcdefghijklmnopqrstuvwxyz0123456789_"
BLANKS = " \n"
LONG_SIGNS = ("<>", "<=", ">=", "||")
SHORT_SIGNS = "(),.+-*/=<>"
MOST_DIGITS = 30
MOST_CHARACTERS = 2000


def tokenize(text):
    """Returns the list of the triples (kind, value, position) of the tokens of the text."""
    tokens = []
    at = 0
    while at < len(text):
        if text[at] in BLANKS:
            at += 1
        else:
            kind, found, end = _token_at(text, at)
            tokens.append((kind, found, at))
            at = end
    return tokens


def write_token(token):
    """Returns a string that is divided into this one token."""
    kind, told = token[0], token[1]
    if kind == "text":
        return "'" + told.replace("'", "''") + "'"
    if kind == "parameter":
        return f"${told}"
    return str(told)


def _token_at(text, at):
    """Returns the kind and the value of the token that starts here, and where it ends."""
    first = text[at]
    if first in LETTERS:
        return _word_at(text, at)
    if first in DIGITS:
        return _integer_at(text, at)
    if first == "'":
        return _text_at(text, at)
    if first == "$":
        return _parameter_at(text, at)
    return _sign_at(text, at)


def _end_of_run(text, at, characters):
    """Returns the index behind the longest run of the characters that starts here."""
    while at < len(text) and text[at] in characters:
        at += 1
    return at


def _word_at(text, at):
    """Reads a keyword or a name."""
    end = _end_of_run(text, at, OF_WORDS)
    word = text[at:end]
    return ("keyword" if word in KEYWORDS else "name", word, end)


def _integer_at(text, at):
    """Reads an integer."""
    end = _end_of_run(text, at, DIGITS)
    if end - at > MOST_DIGITS:
        raise RefusedText(at)
    return ("integer", int(text[at:end]), end)


def _text_at(text, at):
    """Reads a text in single quotes."""
    parts = []
    start = at + 1
    end = text.find("'", start)
    while end >= 0 and text[end + 1:end + 2] == "'":
        # The first of the two quotes is the one that stands in the text.
        parts.append(text[start:end + 1])
        start = end + 2
        end = text.find("'", start)
    if end < 0:
        raise RefusedText(at)
    parts.append(text[start:end])
    told = "".join(parts)
    if len(told) > MOST_CHARACTERS:
        raise RefusedText(at)
    return ("text", told, end + 1)


def _parameter_at(text, at):
    """Reads a parameter."""
    end = _end_of_run(text, at + 1, DIGITS)
    if end - at not in (2, 3):
        raise RefusedText(at)
    return ("parameter", int(text[at + 1:end]), end)


def _sign_at(text, at):
    """Reads a sign, the longer one where two could be read."""
    if text[at:at + 2] in LONG_SIGNS:
        return ("sign", text[at:at + 2], at + 2)
    if text[at] in SHORT_SIGNS:
        return ("sign", text[at], at + 1)
    raise RefusedText(at)
