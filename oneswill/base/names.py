"""Integers, names, values, and sets told as ascending tuples."""

MAX_LETTERS = 8

# An integer that is passed has at most sixty digits.
_BOUND = 10 ** 60


def is_integer(value):
    """Whether the value is an integer of at most sixty digits, neither True nor False."""
    return isinstance(value, int) and not isinstance(value, bool) and -_BOUND < value < _BOUND


def is_name(value):
    """Whether the value is a string of one to eight letters a to z."""
    if not isinstance(value, str) or not 1 <= len(value) <= MAX_LETTERS:
        return False
    return all(["a" <= sign <= "z" for sign in value])


def is_value(value):
    """Whether the value is 0 or 1."""
    return is_integer(value) and 0 <= value <= 1


def is_values(value):
    """Whether the value is a tuple of 0 and 1, perhaps empty."""
    return isinstance(value, tuple) and all([is_value(item) for item in value])


def has_values(value, many):
    """Whether the value is a tuple of so many values."""
    return is_values(value) and len(value) == many


def all_values(many):
    """All tuples of so many values, ascending."""
    found = [()]
    for _ in range(many):
        found = [(*values, value) for values in found for value in (0, 1)]
    return tuple(found)


def all_sets(items):
    """All sets of some of these items, which are told ascending, perhaps of none; ascending."""
    chosen = [list(zip(items, values)) for values in all_values(len(items))]
    return tuple(sorted([tuple([item for item, value in pairs if value == 1]) for pairs in chosen]))


def is_ascending(items):
    """Whether each item of a tuple is less than the next one."""
    return all([one < other for one, other in zip(items, items[1:])])


def is_set_of_names(value):
    """Whether the value is a set of names."""
    return isinstance(value, tuple) and all([is_name(item) for item in value]) and is_ascending(value)


def is_subset(value, names):
    """Whether the value is a set of some of these names, perhaps of none."""
    return is_set_of_names(value) and all([name in names for name in value])
