"""Printable strings, integers, and the canonical texts of plain values."""

from boundstone.errors import BadText
from boundstone.limits import MOST_DEPTH, MOST_DIGITS, MOST_LENGTH

# The code of the one character between the space and the tilde that is not printable here.
BARRED = 37


def is_printable(value):
    """Tell whether any value is a printable string."""
    if not isinstance(value, str):
        return False
    for character in value:
        if not " " <= character <= "~" or ord(character) == BARRED:
            return False
    return True


def is_integer(value, least, greatest):
    """Tell whether any value is an integer from least to greatest."""
    if not isinstance(value, int) or isinstance(value, bool):
        return False
    return least <= value <= greatest


def encode(value):
    """Return the canonical text of a plain value."""
    text = _write(value, 0)
    if len(text) > MOST_LENGTH:
        raise BadText("the text is too long")
    return text


def decode(text):
    """Return the plain value that has this canonical text."""
    if not isinstance(text, str) or len(text) > MOST_LENGTH or not is_printable(text):
        raise BadText("not a printable string, or too long")
    value, end = _read(text, 0, 0)
    if end < len(text):
        raise BadText("characters after the end of the value")
    return value


def _write(value, depth):
    if value is None:
        return "*"
    if isinstance(value, tuple):
        return _write_tuple(value, depth + 1)
    if is_printable(value):
        return "'" + value.replace("'", "''") + "'"
    # Python refuses to write out very long integers, so the value is compared instead.
    most = int("9" * MOST_DIGITS)
    if not is_integer(value, -most, most):
        raise BadText("not a plain value")
    return str(value)


def _write_tuple(items, depth):
    if depth > MOST_DEPTH:
        raise BadText("nested too deeply")
    texts = []
    length = 1
    for item in items:
        text = _write(item, depth)
        texts.append(text)
        length = length + len(text) + 1
        # A tuple can hold the same item many times at each level, so its text may be far longer
        # than can be written.
        if length > MOST_LENGTH:
            raise BadText("the text is too long")
    return "(" + ",".join(texts) + ")"


def _read(text, at, depth):
    """Return the value that begins at this place, and the place after it."""
    mark = text[at:at + 1]
    if mark == "*":
        return None, at + 1
    if mark == "'":
        return _read_string(text, at + 1)
    if mark == "(":
        return _read_tuple(text, at + 1, depth + 1)
    return _read_integer(text, at)


def _read_string(text, at):
    parts = []
    while True:
        end = text.find("'", at)
        if end < 0:
            raise BadText("a string does not end")
        if text[end + 1:end + 2] != "'":
            parts.append(text[at:end])
            return "".join(parts), end + 1
        parts.append(text[at:end + 1])
        at = end + 2


def _read_tuple(text, at, depth):
    if depth > MOST_DEPTH:
        raise BadText("nested too deeply")
    if text[at:at + 1] == ")":
        return (), at + 1
    items = []
    while True:
        item, at = _read(text, at, depth)
        items.append(item)
        mark = text[at:at + 1]
        at = at + 1
        if mark == ")":
            return tuple(items), at
        if mark != ",":
            raise BadText("a comma or the end of a tuple is missing")


def _read_integer(text, at):
    start = at
    if text[at:at + 1] == "-":
        start = at + 1
    end = start
    while text[end:end + 1].isdigit():
        end = end + 1
    digits = text[start:end]
    if not 1 <= len(digits) <= MOST_DIGITS:
        raise BadText("no value, or an integer with too many digits")
    if digits[0] == "0" and end > at + 1:
        raise BadText("a leading zero, or a zero with a sign")
    return int(text[at:end]), end
