"""Ranges of moments that follow each other."""

from gaplesskeys.checks import BOUND, is_bounded, is_integer, is_written_integer
from gaplesskeys.errors import InvalidMoment, InvalidRange, ParseError


# Where a class has an order, L5 of LANGUAGE.md keeps the builtins min and max
# for what is plainly numbers.
def _lesser(one, two):
    return one if one < two else two


def _greater(one, two):
    return one if one > two else two


def _checked_shift(value):
    if not is_bounded(value):
        raise InvalidMoment(value)
    return value


def _between(low, high):
    """The range with these bounds, of which high is BOUND for an endless one."""
    if low > high:
        return Range.empty()
    return Range(low, None if high == BOUND else high)


class Range:
    """The moments from a first one to a last one, or to no last one."""

    def __init__(self, first, last):
        if not is_bounded(first):
            raise InvalidRange(first)
        if last is not None and not is_bounded(last):
            raise InvalidRange(last)
        # With these bounds the pair (low, high) alone gives the order of
        # ranges: an endless one comes behind all with its first moment, and
        # the empty one, always with the same pair, ahead of all.
        self._low = first
        self._high = BOUND if last is None else last
        if self._high < self._low:
            self._low = -BOUND
            self._high = -BOUND - 1

    @classmethod
    def empty(cls):
        """The empty range."""
        return cls(0, -1)

    @classmethod
    def parsed(cls, text):
        """The range that a text describes."""
        if not isinstance(text, str):
            raise ParseError(0)
        if text == "empty":
            return cls.empty()
        words = text.split(" ")
        if len(words) != 2 or not is_written_integer(words[0]):
            raise ParseError(0)
        first = int(words[0])
        if words[1] == "-":
            return cls(first, None)
        # An empty range is not written by its moments.
        if not is_written_integer(words[1]) or int(words[1]) < first:
            raise ParseError(0)
        return cls(first, int(words[1]))

    @property
    def first(self):
        """The first moment, None for the empty range."""
        return None if self._low > self._high else self._low

    @property
    def last(self):
        """The last moment, None for the empty range and for endless ones."""
        if self._low > self._high or self._high == BOUND:
            return None
        return self._high

    @property
    def is_endless(self):
        """Whether there is no last moment, though there is a first one."""
        return self._high == BOUND

    @property
    def size(self):
        """The number of moments, None for endless ranges."""
        return None if self._high == BOUND else self._high - self._low + 1

    def __str__(self):
        if self._low > self._high:
            return "empty"
        if self._high == BOUND:
            return f"{self._low} -"
        return f"{self._low} {self._high}"

    def __bool__(self):
        return bool(self._low <= self._high)

    def __eq__(self, other):
        if not isinstance(other, Range):
            return False
        return (self._low, self._high) == (other._low, other._high)

    def __lt__(self, other):
        if not isinstance(other, Range):
            return NotImplemented
        return (self._low, self._high) < (other._low, other._high)

    def __le__(self, other):
        if not isinstance(other, Range):
            return NotImplemented
        return (self._low, self._high) <= (other._low, other._high)

    def __gt__(self, other):
        if not isinstance(other, Range):
            return NotImplemented
        return (self._low, self._high) > (other._low, other._high)

    def __ge__(self, other):
        if not isinstance(other, Range):
            return NotImplemented
        return (self._low, self._high) >= (other._low, other._high)

    def __and__(self, other):
        return _between(_greater(self._low, other._low), _lesser(self._high, other._high))

    def __contains__(self, x):
        if isinstance(x, Range):
            return self.covers(x)
        if not is_integer(x) or x < self._low:
            return False
        return self._high == BOUND or x <= self._high

    def __add__(self, other):
        return self._moved(_checked_shift(other))

    def __radd__(self, other):
        return self._moved(_checked_shift(other))

    def __sub__(self, other):
        return self._moved(-_checked_shift(other))

    def _moved(self, shift):
        if self._low > self._high:
            return Range.empty()
        return Range(self._low + shift, None if self._high == BOUND else self._high + shift)

    def covers(self, other):
        """Whether all moments of another range are in this one."""
        if other._low > other._high:
            return True
        return self._low <= other._low and other._high <= self._high

    def is_before(self, other):
        """Whether each moment of this range is before each one of another."""
        if self._low > self._high or other._low > other._high:
            return True
        return self._high < other._low

    def joined(self, other):
        """The range of the moments of both, or None if that is no range."""
        if self._low > self._high:
            return other
        if other._low > other._high:
            return self
        if self._low > other._high + 1 or other._low > self._high + 1:
            return None
        return _between(_lesser(self._low, other._low), _greater(self._high, other._high))
