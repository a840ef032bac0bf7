"""What single values are: numbers, names, signs, rows, states."""


def is_integer(value):
    """Whether any value is an int that is no bool."""
    return isinstance(value, int) and not isinstance(value, bool)


def is_count(value):
    """Whether any value is an integer that is at least 0."""
    return is_integer(value) and value >= 0


def is_name(value):
    """Whether any value is a string of one to eight letters from a to z."""
    if not isinstance(value, str) or not 1 <= len(value) <= 8:
        return False
    return value.isascii() and value.isalpha() and value.islower()


def is_sign(value):
    """Whether any value is a tuple of two names, a call and an answer."""
    return isinstance(value, tuple) and len(value) == 2 and is_name(value[0]) and is_name(value[1])


def is_row(value):
    """Whether any value is a list of signs."""
    return is_list(value) and all([is_sign(sign) for sign in value])


def is_list(value):
    """Whether any value is accepted where a list is asked for: a tuple is one there."""
    return isinstance(value, (list, tuple))


def is_state(states, value):
    """Whether any value is a state of a box with so many states."""
    return is_integer(value) and 0 <= value < states
