"""Lists of spans: ranges without overlap, in ascending order, each with a worth."""

from boundstone.keys import below, overlap


def apart(spans, low, high):
    """Cut spans at the bounds of a range, and return those in the range and those outside of it."""
    inside = []
    outside = []
    for start, end, worth in spans:
        if start < low:
            outside.append((start, _lesser(end, low), worth))
        if overlap(start, end, low, high):
            inside.append((max(start, low), _lesser(end, high), worth))
        if below(high, end):
            outside.append((max(start, high), end, worth))
    return inside, outside


def filled(spans, low, high, worth):
    """Return spans that lie in a range, and between them spans of this worth for the rest of it."""
    result = []
    at = low
    for span in spans:
        if at < span[0]:
            result.append((at, span[0], worth))
        result.append(span)
        at = span[1]
    if below(at, high):
        result.append((at, high, worth))
    return result


def fused(spans):
    """Return spans in ascending order, neighbours of the same worth as one."""
    result = []
    for low, high, worth in sorted(spans, key=lambda span: span[0]):
        if len(result) > 0 and result[-1][1] == low and result[-1][2] == worth:
            result[-1] = (result[-1][0], high, worth)
        else:
            result.append((low, high, worth))
    return result


def _lesser(one, other):
    return one if below(one, other) else other
