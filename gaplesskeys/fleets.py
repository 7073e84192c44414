"""Fleets: kinds of services, which learn late, and the calls between them."""

from gaplesskeys.checks import is_between, is_word
from gaplesskeys.errors import InvalidCall, InvalidKind, InvalidMoment, LimitExceeded, UnknownName

LONGEST = 10 ** 30
MOST_KINDS = 5
MOST_CALLS = 6
_LONGEST_CHAIN = 4


def _checked_gap(value):
    if not is_between(value, 1, LONGEST):
        raise InvalidKind(value)
    return value


def _checked_age(value):
    if value is not None and not is_between(value, 0, LONGEST):
        raise InvalidKind(value)
    return value


def _checked_source(value):
    if value is not None and not is_word(value):
        raise InvalidKind(value)
    return value


def _copied(kind):
    return Kind(gap=kind.gap, age=kind.age, source=kind.source)


def _chain_to(kinds, name):
    """The names of kinds from the one next to the publisher to this one.

    It ends early where the chain is too long, as it is in a ring.
    """
    names = [name]
    source = kinds[name].source
    while source is not None and len(names) <= _LONGEST_CHAIN:
        names = [source, *names]
        source = kinds[source].source
    return names


class Kind:
    """How often the services of a kind pull, how old their copies are, and from where."""

    def __init__(self, *, gap, age=None, source=None):
        self._gap = _checked_gap(gap)
        self._age = _checked_age(age)
        self._source = _checked_source(source)

    @property
    def gap(self):
        """The most moments from one pull to the next."""
        return self._gap

    @gap.setter
    def gap(self, value):
        self._gap = _checked_gap(value)

    @property
    def age(self):
        """The greatest age of a copy, None if there are no copies."""
        return self._age

    @age.setter
    def age(self, value):
        self._age = _checked_age(value)

    @property
    def source(self):
        """The name of the kind that is read, None for the publisher."""
        return self._source

    def change(self, name, value):
        """Sets the gap or the age and returns the earlier one."""
        if name == "gap":
            earlier = self._gap
            self._gap = _checked_gap(value)
        elif name == "age":
            earlier = self._age
            self._age = _checked_age(value)
        else:
            raise UnknownName(name)
        return earlier

    def __eq__(self, other):
        return (
            isinstance(other, Kind)
            and self._gap == other._gap
            and self._age == other._age
            and self._source == other._source
        )


class Fleet:
    """Kinds of services under their names, and calls between them."""

    def __init__(self):
        self._kinds = {}
        self._calls = []

    def __setitem__(self, at, worth):
        if not is_word(at) or not isinstance(worth, Kind):
            raise InvalidKind(at)
        if worth.source is not None and worth.source not in self._kinds:
            raise UnknownName(worth.source)
        if at not in self._kinds and len(self._kinds) == MOST_KINDS:
            raise LimitExceeded(MOST_KINDS)
        kinds = dict(self._kinds)
        # Kinds can be changed, so the fleet keeps one of its own.
        kinds[at] = _copied(worth)
        # Another source also makes the chains of kinds behind this one longer.
        if any([len(_chain_to(kinds, name)) > _LONGEST_CHAIN for name in kinds]):
            raise InvalidKind(at)
        self._kinds = kinds

    def __getitem__(self, at):
        self._check(at)
        return _copied(self._kinds[at])

    def __iter__(self):
        raise TypeError("a fleet is not iterated over")

    def __contains__(self, x):
        return is_word(x) and x in self._kinds

    def __len__(self):
        return len(self._kinds)

    def __eq__(self, other):
        return isinstance(other, Fleet) and self._kinds == other._kinds and self._calls == other._calls

    def _check(self, name):
        # Only a word is looked up, since other values may not be hashable.
        if not is_word(name) or name not in self._kinds:
            raise UnknownName(name)

    def names(self):
        """The names of all kinds, in alphabetical order."""
        return sorted(set(self._kinds))

    def chain(self, kind):
        """The names of the kinds from the one next to the publisher to this one."""
        self._check(kind)
        return _chain_to(self._kinds, kind)

    def lateness(self, kind):
        """The lateness of a kind: how long after an edition none of it lacks the next one."""
        lateness = 1
        for name in self.chain(kind):
            link = self._kinds[name]
            if link.age is None:
                lateness = lateness + link.gap - 1
            else:
                lateness = lateness + 2 * link.gap + link.age - 2
        return lateness

    def add_call(self, role, client, server, *, life=0):
        """Adds a call from one kind to another and returns its number."""
        if not is_word(role):
            raise InvalidCall(role)
        self._check(client)
        self._check(server)
        if not is_between(life, 0, LONGEST):
            raise InvalidMoment(life)
        if len(self._calls) == MOST_CALLS:
            raise LimitExceeded(MOST_CALLS)
        self._calls.append((role, client, server, life))
        return len(self._calls) - 1

    def calls(self):
        """All calls, tuples (role, client, server, life)."""
        return list(self._calls)
