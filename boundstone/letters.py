"""Letters between clients, servers and the directory."""

from boundstone.errors import BadLetter
from boundstone.keys import below, contains, is_bound, is_key, is_range
from boundstone.limits import DIRECTORY, MOST_CLIENTS, MOST_NUMBER
from boundstone.operations import are_pairs, is_answer, is_operation, kind_of
from boundstone.texts import is_integer


def is_server(count, value):
    """Tell whether any value is a server in a group of this many."""
    return is_integer(value, 0, count - 1)


def is_client(value):
    """Tell whether any value is the name of a client."""
    return is_integer(value, -MOST_CLIENTS, -1)


def is_pairs(low, high, value):
    """Tell whether any value is the items of a content for this range."""
    if not are_pairs(value):
        return False
    for key, _ in value:
        if not contains(low, high, key):
            return False
    return True


def is_rows(value):
    """Tell whether any value is the sessions of a content."""
    if not isinstance(value, tuple):
        return False
    last = None
    for row in value:
        if not _is_row(row) or (last is not None and row[0] <= last):
            return False
        last = row[0]
    return True


def _is_row(value):
    if not isinstance(value, tuple) or len(value) != 3:
        return False
    client, number, answer = value
    return is_client(client) and is_number(number) and is_answer(answer)


def is_number(value):
    """Tell whether any value is a number of a request, or an epoch."""
    return is_integer(value, 1, MOST_NUMBER)


def _is_ask(count, letter):
    return len(letter) == 3 and is_number(letter[1]) and is_operation(letter[2])


def _is_where(count, letter):
    return len(letter) == 2 and is_bound(letter[1])


def _is_told(count, letter):
    return len(letter) == 3 and is_number(letter[1]) and is_answer(letter[2])


def _is_elsewhere(count, letter):
    return len(letter) == 2 and is_number(letter[1])


def names_shard(letter, length):
    """Tell whether a letter of this length has a range and an epoch behind its kind."""
    return len(letter) == length and is_range(letter[1], letter[2]) and is_number(letter[3])


def _names_server(count, letter):
    return names_shard(letter, 5) and is_server(count, letter[4])


def _is_split(count, letter):
    if not names_shard(letter, 5):
        return False
    low, high, at = letter[1], letter[2], letter[4]
    return is_key(at) and low < at and below(at, high)


def _is_join(count, letter):
    if len(letter) != 6:
        return False
    _, low, middle, epoch, high, other = letter
    if not is_range(low, middle) or not is_range(middle, high):
        return False
    return is_number(epoch) and is_number(other)


def _is_have(count, letter):
    return names_shard(letter, 6) and is_integer(letter[4], 0, MOST_NUMBER) and is_bound(letter[5])


def _is_content(count, letter):
    if not names_shard(letter, 6):
        return False
    return is_pairs(letter[1], letter[2], letter[4]) and is_rows(letter[5])


def _is_receipt(count, letter):
    return names_shard(letter, 4)


FORMS = {
    "ask": _is_ask,
    "where": _is_where,
    "answer": _is_told,
    "elsewhere": _is_elsewhere,
    "there": _names_server,
    "move": _names_server,
    "split": _is_split,
    "join": _is_join,
    "have": _is_have,
    "content": _is_content,
    "receipt": _is_receipt,
}

ROUTES = {
    "ask": ("client", "server"),
    "where": ("client", "directory"),
    "answer": ("server", "client"),
    "elsewhere": ("server", "client"),
    "there": ("directory", "client"),
    "move": ("directory", "server"),
    "split": ("directory", "server"),
    "join": ("directory", "server"),
    "have": ("server", "directory"),
    "content": ("server", "server"),
    "receipt": ("server", "server"),
}


def is_letter(count, value):
    """Tell whether any value is a letter in a group of this many servers."""
    kind = kind_of(value)
    if kind not in FORMS:
        return False
    check = FORMS[kind]
    return check(count, value)


def _is_party(count, role, value):
    if role == "client":
        return is_client(value)
    if role == "server":
        return is_server(count, value)
    return is_integer(value, DIRECTORY, DIRECTORY)


def check_letter(count, sender, receiver, letter):
    """Return the letter if it may go from this sender to this receiver."""
    if not is_letter(count, letter):
        raise BadLetter("not a letter")
    source, target = ROUTES[letter[0]]
    if not _is_party(count, source, sender) or not _is_party(count, target, receiver):
        raise BadLetter("not a letter between these two")
    return letter
