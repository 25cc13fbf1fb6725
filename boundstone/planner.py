"""Plans which shards to split, to join and to move."""

from boundstone.keys import below, is_key
from boundstone.routes import is_whole

MOST_ITEMS = 8
FEW_ITEMS = 4


def plan(pieces, count):
    """Return the orders for what is known of the ranges, each with the server that it is for."""
    reports = [piece[2] for piece in pieces if is_whole(piece)]
    splits = [_split(report) for report in reports if _is_large(report)]
    joins, rest = _join_neighbours([report for report in reports if not _is_large(report)])
    return splits + joins + _even_out(reports, rest, count)


def _is_large(report):
    """Tell whether a shard has so many items that it is split, and a key to split it at."""
    low, high, _, _, size, middle = report
    return size > MOST_ITEMS and is_key(middle) and low < middle and below(middle, high)


def _split(report):
    low, high, epoch, server, _, middle = report
    return (server, ("split", low, high, epoch, middle))


def _join_neighbours(reports):
    """Return the joins of neighbours, and the reports that are in none of them."""
    joins = []
    rest = []
    at = 0
    while at < len(reports):
        if at + 1 < len(reports) and _belong_together(reports[at], reports[at + 1]):
            joins.append(_join(reports[at], reports[at + 1]))
            at = at + 2
        else:
            rest.append(reports[at])
            at = at + 1
    return joins, rest


def _belong_together(one, other):
    """Tell whether two shards are neighbours at one server, with so few items that they are joined."""
    return one[1] == other[0] and one[3] == other[3] and one[4] + other[4] <= FEW_ITEMS


def _join(one, other):
    low, middle, epoch, server, _, _ = one
    return (server, ("join", low, middle, epoch, other[1], other[2]))


def _load(reports, server):
    return len([report for report in reports if report[3] == server])


def _even_out(reports, rest, count):
    """Return a move from the server with the most shards to the one with the least, or none."""
    loads = [_load(reports, server) for server in range(count)]
    busiest = loads.index(max(loads))
    target = loads.index(min(loads))
    if loads[busiest] - loads[target] < 2:
        return []
    for low, high, epoch, server, _, _ in rest:
        if server == busiest:
            return [(server, ("move", low, high, epoch, target))]
    return []
