"""Private: what several files need and the interface does not list."""

MOST_ROWS = 729


def is_number(thing):
    """Whether thing is an int that is no bool."""
    return isinstance(thing, int) and not isinstance(thing, bool)


def as_tuple(value):
    """The value with a tuple for a list; any other value as it is, for a check behind this to tell."""
    return tuple(value) if isinstance(value, list) else value


def many_in(value):
    """How many things are in a tuple or list; None for any other value, which is as many as nothing."""
    return len(value) if isinstance(value, (tuple, list)) else None


def in_tuples(value):
    """The value with a tuple for each list, at any depth."""
    if not isinstance(value, (list, tuple)):
        return value
    return tuple([in_tuples(part) if isinstance(part, (list, tuple)) else part for part in value])


def power(base, times):
    """The base multiplied by itself so many times; 1 for 0 times."""
    total = 1
    for _ in range(times):
        total = total * base
    return total


def is_above_most(p, many):
    """Whether p ** many is above the most ROWS that are listed."""
    total = 1
    for _ in range(many):
        total = total * p
        # Stops early: many may be so great that the power itself takes long.
        if total > MOST_ROWS:
            return True
    return False


def is_part(one, other):
    """Whether all that is in one is in other."""
    return all(own in other for own in one)
