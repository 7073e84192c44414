"""Checks of values that callers give. Each one takes any value."""

from gaplesskeys.errors import InvalidDays, UnknownName

# The least integer of more than sixty digits.
BOUND = 10 ** 60

_LAST_MOMENT = 10 ** 40


def is_integer(value):
    """Whether a value is an integer."""
    # Python counts True and False as integers, the document does not.
    return isinstance(value, int) and not isinstance(value, bool)


def is_bounded(value):
    """Whether a value is an integer of at most sixty digits."""
    return is_integer(value) and -BOUND < value < BOUND


def is_between(value, least, most):
    """Whether a value is an integer from the least one to the most one."""
    return is_integer(value) and least <= value <= most


def is_moment(value):
    """Whether a value is a moment that can be given."""
    return is_between(value, 0, _LAST_MOMENT)


def is_index(value, many):
    """Whether a value is the number of one of so many things."""
    return is_between(value, 0, many - 1)


def is_tuple_of(value, many):
    """Whether a value is a tuple of so many items."""
    return isinstance(value, tuple) and len(value) == many


def is_short_tuple(value, most):
    """Whether a value is a tuple of at most so many items."""
    return isinstance(value, tuple) and len(value) <= most


def is_word(value):
    """Whether a value is a word, as keys and the names of roles are."""
    if not isinstance(value, str) or len(value) > 8:
        return False
    return value.isascii() and value.isalpha() and value.islower()


def is_written_integer(word):
    """Whether a word is an integer of at most sixty digits as str writes it."""
    digits = word.removeprefix("-")
    # The length comes ahead of int, which rejects very long words itself.
    if not digits.isascii() or not digits.isdigit() or len(digits) > 60:
        return False
    return str(int(word)) == word


def is_key_list(value):
    """Whether a value is a list of keys, which may occur in it repeatedly."""
    return isinstance(value, list) and all([is_word(key) for key in value])


def is_different_key_list(value):
    """Whether a value is a list of different keys."""
    return is_key_list(value) and len(set(value)) == len(value)


def are_different_keys(value, most):
    """Whether a value is a list or a tuple of at most so many different keys."""
    if not isinstance(value, (list, tuple)) or len(value) > most:
        return False
    return all([is_word(key) for key in value]) and len(set(value)) == len(value)


def check_roles(contents, fleet):
    """Raises UnknownName with the first role of a call that contents do not have."""
    for role, _, _, _ in fleet.calls():
        if role not in contents.roles:
            raise UnknownName(role)


def check_days(days, roles):
    """Raises InvalidDays if a value is not a dict from (role, key) to moments, or to lifetimes."""
    if not isinstance(days, dict):
        raise InvalidDays(days)
    for place in days:
        if not is_tuple_of(place, 2) or not is_moment(days[place]):
            raise InvalidDays(days)
        if place[0] not in roles or not is_word(place[1]):
            raise InvalidDays(days)
