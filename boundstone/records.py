"""The forms of the records that a server keeps in its log."""

from boundstone.keys import is_bound
from boundstone.letters import is_client, is_letter, is_number, is_pairs, is_rows, names_shard
from boundstone.limits import MOST_NUMBER
from boundstone.operations import is_operation, kind_of
from boundstone.texts import is_integer


def _is_opened(record):
    if not names_shard(record, 6):
        return False
    return is_pairs(record[1], record[2], record[4]) and is_rows(record[5])


def _can_rise(epoch):
    """Tell whether there is a greater epoch, which a move, a split and a join need."""
    return epoch < MOST_NUMBER


def _is_closed(record):
    return names_shard(record, 5) and _can_rise(record[3]) and is_integer(record[4], 0, MOST_NUMBER)


def _is_shard_alone(record):
    return names_shard(record, 4)


# The records of a split and a join have the forms of the letters that order them, and these are the
# same in every group of servers.
def _is_split(record):
    return is_letter(1, record) and _can_rise(record[3])


def _is_join(record):
    return is_letter(1, record) and _can_rise(record[3]) and _can_rise(record[5])


def _is_did(record):
    if len(record) != 6:
        return False
    _, low, epoch, client, number, op = record
    return is_bound(low) and is_number(epoch) and is_client(client) and is_number(number) and is_operation(op)


FORMS = {
    "opened": _is_opened,
    "closed": _is_closed,
    "gone": _is_shard_alone,
    "split": _is_split,
    "join": _is_join,
    "did": _is_did,
    "had": _is_shard_alone,
}


def is_record(value):
    """Tell whether any value has the form of a record, whether or not it is valid after others."""
    kind = kind_of(value)
    if kind not in FORMS:
        return False
    check = FORMS[kind]
    return check(value)
