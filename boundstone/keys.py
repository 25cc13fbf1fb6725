"""Keys, bounds, and ranges of keys."""

from boundstone.limits import MOST_KEY


def is_key(value):
    """Tell whether any value is a key."""
    if not isinstance(value, str) or not 1 <= len(value) <= MOST_KEY:
        return False
    for character in value:
        if not "a" <= character <= "z":
            return False
    return True


def is_bound(value):
    """Tell whether any value is a key or the empty string."""
    return is_key(value) or (isinstance(value, str) and value == "")


def is_range(low, high):
    """Tell whether any two values are a low and a high bound of a range."""
    if not is_bound(low):
        return False
    return high is None or (is_key(high) and low < high)


def below(one, other):
    """Compare two bounds, where None is above every string."""
    if one is None:
        return False
    return other is None or one < other


def contains(low, high, bound):
    """Tell whether a range contains a bound."""
    return low <= bound and below(bound, high)


def overlap(low, high, other_low, other_high):
    """Tell whether some bound is in both ranges."""
    return below(low, other_high) and below(other_low, high)
