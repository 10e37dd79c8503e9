"""Names, the parts of a store, numbers and ascending tuples."""


def is_name(value):
    """Whether the value is a string of one to eight letters from a to z."""
    if not isinstance(value, str) or not 1 <= len(value) <= 8:
        return False
    return all(["a" <= letter <= "z" for letter in value])


def is_parts(value):
    """Whether the value is an ascending tuple of two to four names."""
    if not isinstance(value, tuple) or not 2 <= len(value) <= 4:
        return False
    return all([is_name(part) for part in value]) and is_ascending(value)


def is_ascending(values):
    """Whether each value of a tuple is less than the next one."""
    return all([values[at] < values[at + 1] for at in range(len(values) - 1)])


def ascending(values):
    """The ascending tuple of some values, each of them once."""
    return tuple(sorted(set(values)))


def is_whole_number(value):
    """Whether the value is an integer; True and False are none."""
    return isinstance(value, int) and not isinstance(value, bool)


def is_number(value):
    """Whether the value is an integer of at least 0."""
    return is_whole_number(value) and value >= 0


def is_number_within(value, most):
    """Whether the value is an integer from 0 to this one."""
    return is_number(value) and value <= most
