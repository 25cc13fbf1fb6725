"""The judge: compares a history, and what the servers hold, with the promises of the table."""

from boundstone.keys import below, contains, overlap
from boundstone.operations import apply, is_operation, kind_of


def request_fault(events):
    """Return the first request that is done without a call or a second time, or None."""
    calls = {}
    done = {}
    for event in events:
        if event[0] == "call":
            calls.setdefault(event[2:4], []).append(event[4])
        request = _request(event)
        if request is not None:
            client, number, op = request
            if op not in calls.get((client, number), []):
                return ("uncalled", client, number)
            if (client, number) in done:
                return ("repeated", client, number)
            done[(client, number)] = True
    return None


def answer_fault(events):
    """Return the first accept of an answer that executing the requests does not give, or None."""
    table = {}
    # From the client and the number to the operation, and what the table told when it was done first.
    done = {}
    for event in events:
        request = _request(event)
        if request is not None:
            client, number, op = request
            told = _execute(table, op)
            done.setdefault((client, number), (op, told))
        elif event[0] == "accept":
            _, _, client, number, answer = event
            if (client, number) not in done:
                return ("missing", client, number)
            op, told = done[(client, number)]
            if not _fits(op, told, answer):
                return ("answer", client, number)
    return None


def home_fault(holdings):
    """Return the first two open shards that have a common place, or None."""
    shards = [row for row in holdings if row[4] == "open"]
    for at, (first, low, high, _, _, _) in enumerate(shards):
        for second, other_low, other_high, _, _, _ in shards[at + 1:]:
            if overlap(low, high, other_low, other_high):
                return ("home", first, second, max(low, other_low))
    return None


def cover_fault(holdings):
    """Return the first bound that no shard or that two of the newest shards have, or None."""
    bounds = {"": True}
    for _, low, high, _, _, _ in holdings:
        bounds[low] = True
        if high is not None:
            bounds[high] = True
    for bound in sorted(bounds):
        newest = _newest(holdings, bound)
        if len(newest) == 0:
            return ("gap", bound)
        if len(newest) > 1:
            return ("twice", bound)
    return None


def lost_fault(holdings, events):
    """Return the first key whose value is not the one that the requests leave, or None."""
    table = {}
    for event in events:
        request = _request(event)
        if request is not None:
            apply(table, request[2], None)
    keys = dict(table)
    for row in holdings:
        keys.update(dict(row[5]))
    for key in sorted(keys):
        newest = _newest(holdings, key)
        if len(newest) == 0 or dict(newest[0][5]).get(key) != table.get(key):
            return ("lost", key)
    return None


def judge(events, holdings):
    """Return all faults."""
    faults = [
        request_fault(events),
        answer_fault(events),
        home_fault(holdings),
        cover_fault(holdings),
        lost_fault(holdings, events),
    ]
    return [fault for fault in faults if fault is not None]


def _request(event):
    """Return the client, the number and the operation of the request that an event does, or None."""
    if event[0] != "done":
        return None
    record = event[3]
    if kind_of(record) != "did" or len(record) != 6 or not is_operation(record[5]):
        return None
    return record[3:]


def _execute(table, op):
    """Perform an operation, and return its answer, or for a page the items from its low bound on."""
    if op[0] == "page":
        return [(key, table[key]) for key in sorted(table) if op[1] <= key]
    return apply(table, op, None)


def _fits(op, told, answer):
    """Tell whether an answer fits what the table told."""
    if op[0] != "page":
        return answer == told
    _, low, limit = op
    if kind_of(answer) != "page" or len(answer) != 3:
        return False
    _, pairs, following = answer
    # A server knows only its own shard, so its page may end before the limit.
    if following is not None and not (isinstance(following, str) and following > low):
        return False
    expected = [pair for pair in told if below(pair[0], following)]
    return pairs == tuple(expected) and len(expected) <= limit


def _newest(holdings, spot):
    """Return the shards with the greatest epoch among those that have a place."""
    shards = [row for row in holdings if contains(row[1], row[2], spot)]
    top = max([row[3] for row in shards], default=0)
    return [row for row in shards if row[3] == top]
