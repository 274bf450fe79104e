"""Tells of any value whether it has one of the forms that the package knows."""


def is_integer(value):
    """Whether value is an int that is not a bool."""
    return isinstance(value, int) and not isinstance(value, bool)


def is_within(value, low, high):
    """Whether value is an integer from low to high."""
    return is_integer(value) and low <= value <= high


def is_row(value, length):
    """Whether value is a tuple of this length."""
    return isinstance(value, tuple) and len(value) == length


def is_ascending(values):
    """Whether each member is more than the one ahead of it; the members can be compared."""
    return all([values[k] < values[k + 1] for k in range(len(values) - 1)])


def is_pair(value, many):
    """Whether value is a pair (a, b) of players below many, a < b."""
    if not is_row(value, 2):
        return False
    a, b = value
    return is_integer(a) and is_integer(b) and 0 <= a < b < many


def are_pairs(value, many):
    """Whether value is an ascending tuple of pairs (a, b) of players below many, a < b."""
    if not isinstance(value, tuple) or not all([is_pair(pair, many) for pair in value]):
        return False
    return is_ascending(value)


def are_numbers(value, most):
    """Whether value is an ascending tuple of numbers up to most."""
    if not isinstance(value, tuple) or not all([is_within(part, 0, most) for part in value]):
        return False
    return is_ascending(value)


def are_apart(pairs):
    """Whether no player is in two of the pairs."""
    seated = [player for pair in pairs for player in pair]
    return len(set(seated)) == len(seated)


def are_seated(value, many):
    """Whether value is an ascending tuple of pairs of players, not (), no player in two of them."""
    return are_pairs(value, many) and len(value) > 0 and are_apart(value)


def plain(value):
    """The same integer or bool, or tuple of these and of such tuples, in Python's own classes."""
    if isinstance(value, tuple):
        return tuple([plain(part) for part in value])
    if isinstance(value, bool):
        return value
    return int(value)


def is_same(value, told):
    """Whether value, any value, is the same as told: a string, an integer, a bool or a tuple of such."""
    if isinstance(told, tuple):
        return is_row(value, len(told)) and all([is_same(part, told[at]) for at, part in enumerate(value)])
    if isinstance(told, str):
        return isinstance(value, str) and value == told
    if isinstance(told, bool):
        return isinstance(value, bool) and value == told
    return is_integer(value) and value == told
