"""What several tests need: values of all kinds, and the error of a call."""


def raised(call, *args, **named):
    """The exception that a call raises, None if it raises none."""
    try:
        call(*args, **named)
    except Exception as error:
        return error
    return None


# Values that are no integers of at most sixty digits, or not what a word is.
NO_INTEGERS = [
    True, False, None, "", "1", "a", b"1", 1.0, float("nan"), (), (1,), [], [1],
    {}, {1: 2}, set(), frozenset(), object(), int, len, range(3), Ellipsis,
    10 ** 60, -10 ** 60, 10 ** 5000,
]
NO_WORDS = [
    True, False, None, 0, 1, -1, 1.5, "", "A", "aB", "a1", "1", " a", "a ", "a b",
    "a,b", "a\n", "a_b", "abcdefghi", "a" * 1000, b"a", ("a",), ["a"], {"a": 1},
    {"a"}, object(), str, len, "\u00e9", "\u00df", "\u0430", "\ud800",
]
