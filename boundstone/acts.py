"""The acts of a world: their kinds and their items."""

from boundstone.errors import BadSchedule
from boundstone.limits import MOST_NUMBER
from boundstone.operations import kind_of
from boundstone.texts import is_integer

MOST_TICKS = 1000

# What stands behind the kind of each act. A number is a count, a position or a keep.
ITEMS = {
    "tick": ("ticks",),
    "submit": ("client", "operation"),
    "deliver": ("number",),
    "round": (),
    "calm": ("ticks",),
    "lose": ("number",),
    "double": ("number",),
    "move": ("number",),
    "order": ("server", "letter"),
    "arm": ("server", "number"),
    "crash": ("server",),
    "restart": ("server", "number"),
}


def check_act(act):
    """Refuse any value that is not an act, or has a number that no act may have."""
    kind = kind_of(act)
    if kind not in ITEMS or len(act) != len(ITEMS[kind]) + 1:
        raise BadSchedule(0, "act")
    for form, item in zip(ITEMS[kind], act[1:]):
        if form == "ticks" and not is_integer(item, 1, MOST_TICKS):
            raise BadSchedule(0, "number")
        if form == "number" and not is_integer(item, 0, MOST_NUMBER):
            raise BadSchedule(0, "number")
