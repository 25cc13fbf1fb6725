"""Values of the table, operations and their answers."""

from boundstone.errors import BadOperation
from boundstone.keys import below, contains, is_bound, is_key
from boundstone.limits import MOST_PAGE, MOST_VALUE
from boundstone.texts import is_integer, is_printable

NONE = ("none",)
DONE = ("done",)


def kind_of(value):
    """Return the first item of a tuple if it is a string, otherwise the empty string."""
    if isinstance(value, tuple) and len(value) > 0 and isinstance(value[0], str):
        return value[0]
    return ""


def is_value(value):
    """Tell whether any value is a value of the table."""
    return is_printable(value) and len(value) <= MOST_VALUE


def are_pairs(value):
    """Tell whether any value is a tuple of keys with their values, the keys strictly ascending."""
    if not isinstance(value, tuple):
        return False
    last = ""
    for pair in value:
        if not _is_pair(pair) or pair[0] <= last:
            return False
        last = pair[0]
    return True


def _is_pair(value):
    return isinstance(value, tuple) and len(value) == 2 and is_key(value[0]) and is_value(value[1])


def _is_key_alone(op):
    return len(op) == 2 and is_key(op[1])


def _is_put(op):
    return len(op) == 3 and is_key(op[1]) and is_value(op[2])


def _is_swap(op):
    return len(op) == 4 and is_key(op[1]) and is_value(op[2]) and is_value(op[3])


def _is_page(op):
    return len(op) == 3 and is_bound(op[1]) and is_integer(op[2], 1, MOST_PAGE)


OPERATIONS = {
    "get": _is_key_alone,
    "put": _is_put,
    "drop": _is_key_alone,
    "swap": _is_swap,
    "page": _is_page,
}


def is_operation(value):
    """Tell whether any value is an operation."""
    kind = kind_of(value)
    if kind not in OPERATIONS:
        return False
    check = OPERATIONS[kind]
    return check(value)


def place(op):
    """Return the place of an operation."""
    if not is_operation(op):
        raise BadOperation("not an operation")
    return op[1]


def is_within(op, low, high):
    """Tell whether a range contains the place of an operation."""
    return contains(low, high, place(op))


def _get(items, op, high):
    if op[1] not in items:
        return NONE
    return ("value", items[op[1]])


def _put(items, op, high):
    items[op[1]] = op[2]
    return DONE


def _drop(items, op, high):
    if op[1] not in items:
        return NONE
    del items[op[1]]
    return DONE


def _swap(items, op, high):
    _, key, old, new = op
    if key not in items:
        return NONE
    if items[key] != old:
        return ("other", items[key])
    items[key] = new
    return DONE


def _page(items, op, high):
    _, low, limit = op
    keys = sorted([key for key in items if low <= key])
    pairs = tuple([(key, items[key]) for key in keys[:limit]])
    if len(keys) > limit:
        return ("page", pairs, keys[limit])
    return ("page", pairs, high)


ACTIONS = {
    "get": _get,
    "put": _put,
    "drop": _drop,
    "swap": _swap,
    "page": _page,
}


def apply(items, op, high):
    """Perform an operation on a dict whose keys are below high, and return the answer."""
    action = ACTIONS[op[0]]
    return action(items, op, high)


def _is_word_alone(answer):
    return len(answer) == 1


def _is_value_told(answer):
    return len(answer) == 2 and is_value(answer[1])


def _is_page_told(answer):
    if len(answer) != 3:
        return False
    _, pairs, following = answer
    if not are_pairs(pairs) or len(pairs) > MOST_PAGE:
        return False
    if following is not None and not is_key(following):
        return False
    return len(pairs) == 0 or below(pairs[-1][0], following)


ANSWERS = {
    "value": _is_value_told,
    "none": _is_word_alone,
    "done": _is_word_alone,
    "other": _is_value_told,
    "page": _is_page_told,
}


def is_answer(value):
    """Tell whether any value is an answer."""
    kind = kind_of(value)
    if kind not in ANSWERS:
        return False
    check = ANSWERS[kind]
    return check(value)
