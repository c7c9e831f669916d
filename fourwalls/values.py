"""Values of any kind: copies of them, and when two of them are equal."""

from fourwalls.weights import Weights


def copied(value):
    """Return a value whose lists and weights are new, also those inside of lists and tuples."""
    if isinstance(value, list):
        return [copied(item) for item in value]
    if isinstance(value, tuple):
        return tuple([copied(item) for item in value])
    return value.copy() if isinstance(value, Weights) else value


def listed(value):
    """Return a list or tuple as a new list, and any other value as it is."""
    return copied(list(value)) if isinstance(value, (list, tuple)) else value


def same(one, other):
    """Tell whether two values are equal, also by kind: True is not 1, and False is not 0."""
    if isinstance(one, bool) or isinstance(other, bool):
        return isinstance(one, bool) and isinstance(other, bool) and one == other
    lists = isinstance(one, list) and isinstance(other, list)
    tuples = isinstance(one, tuple) and isinstance(other, tuple)
    if lists or tuples:
        return len(one) == len(other) and all([same(first, second) for first, second in zip(one, other)])
    return one == other
