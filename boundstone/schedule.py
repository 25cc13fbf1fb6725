"""Schedules: texts that tell the acts of a world line by line."""

from boundstone.acts import ITEMS, check_act
from boundstone.errors import BadSchedule, BadText
from boundstone.operations import is_operation
from boundstone.texts import decode, encode, is_integer, is_printable
from boundstone.world import World

# The integers of a line have at most 12 digits, one less than the greatest number of an act has.
GREATEST = 10 ** 12 - 1


def parse_schedule(text):
    """Return the line of the world, its numbers of servers and clients, and the acts with their lines."""
    world = None
    acts = []
    for number, line in enumerate(text.split("\n"), start=1):
        if not is_printable(line):
            raise BadSchedule(number, "character")
        if line != "" and not line.startswith("#"):
            word, _, _ = line.partition(" ")
            # The world is told once, before all acts.
            if (word == "world") != (world is None):
                raise BadSchedule(number, "world")
            items = _read_items(number, line, word)
            if world is None:
                world = (number,) + items
            else:
                acts.append((number, (word,) + items))
    if world is None:
        raise BadSchedule(0, "world")
    return world + (acts,)


def act_line(act):
    """Return the line of an act."""
    try:
        check_act(act)
        words = [_write_item(form, item) for form, item in zip(ITEMS[act[0]], act[1:])]
    except (BadSchedule, BadText):
        raise BadSchedule(0, "act") from None
    return " ".join([act[0]] + words)


def run_schedule(text):
    """Perform the acts of a schedule on a new world, and return it."""
    line, servers, clients, acts = parse_schedule(text)
    world = _create(line, servers, clients)
    for number, act in acts:
        _perform(world, number, act)
    return world


def _create(line, servers, clients):
    try:
        return World(servers, clients)
    except BadSchedule as error:
        raise BadSchedule(line, error.reason) from None


def _perform(world, line, act):
    try:
        world.act(act)
    except BadSchedule as error:
        raise BadSchedule(line, error.reason) from None


def _forms(word):
    """Return what stands behind the first word of a line, or None if no line begins with this word."""
    if word == "world":
        return ("number", "number")
    return ITEMS.get(word)


def _is_text(form):
    """Tell whether an item is written as a canonical text, which takes the rest of its line."""
    return form in ("operation", "letter")


def _read_items(number, line, first):
    """Return the items that a line has behind its first word."""
    forms = _forms(first)
    if forms is None:
        raise BadSchedule(number, "verb")
    words = line.split(" ")
    if any([_is_text(form) for form in forms]):
        words = line.split(" ", len(forms))
    if len(words) != len(forms) + 1:
        raise BadSchedule(number, "count")
    items = []
    for form, word in zip(forms, words[1:]):
        try:
            items.append(_read_item(form, word))
        except BadText:
            raise BadSchedule(number, "text" if _is_text(form) else "number") from None
    return tuple(items)


def _read_item(form, word):
    """Return the item that a word stands for."""
    # The integers of a line are written as in canonical texts.
    item = decode(word)
    if not _is_item(form, item):
        raise BadText("not an item of this form")
    return item


def _write_item(form, item):
    """Return the word that stands for an item."""
    if not _is_item(form, item):
        raise BadText("not an item of this form")
    return encode(item)


def _is_item(form, item):
    """Tell whether a line can have an item of this form, whether or not the act is possible."""
    if form == "operation":
        return is_operation(item)
    if form == "letter":
        return isinstance(item, tuple)
    if form == "client":
        return is_integer(item, -GREATEST, -1)
    return is_integer(item, 0, GREATEST)
