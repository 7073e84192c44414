"""Checks of values that callers give. Each one takes any value."""

# The least integer of more than sixty digits.
BOUND = 10 ** 60


def is_integer(value):
    """Whether a value is an integer."""
    # Python counts True and False as integers, the document does not.
    return isinstance(value, int) and not isinstance(value, bool)


def is_bounded(value):
    """Whether a value is an integer of at most sixty digits."""
    return is_integer(value) and -BOUND < value < BOUND


def is_word(value):
    """Whether a value is a word, as keys and the names of roles are."""
    if not isinstance(value, str) or len(value) > 8:
        return False
    return value.isascii() and value.isalpha() and value.islower()


def is_key_list(value):
    """Whether a value is a list of keys, which may occur in it repeatedly."""
    return isinstance(value, list) and all([is_word(key) for key in value])


def are_different_keys(value, most):
    """Whether a value is a list or a tuple of at most so many different keys."""
    if not isinstance(value, (list, tuple)) or len(value) > most:
        return False
    return all([is_word(key) for key in value]) and len(set(value)) == len(value)
