"""The contents of an edition: its keys, its vouchers and its signers."""

from gaplesskeys.checks import are_different_keys, is_integer, is_key_list, is_word
from gaplesskeys.errors import InvalidContents, InvalidKeys, UnknownName

_MOST_ROLES = 3
_MOST_ACCEPTED = 8
_MOST_VOUCHERS = 4
_MOST_NEEDED = 4


def _is_use(value):
    """Whether a value is a tuple of accepted keys and a used key."""
    if not isinstance(value, tuple) or len(value) != 2:
        return False
    accepted, used = value
    return are_different_keys(accepted, _MOST_ACCEPTED) and is_word(used)


def _are_roles(value):
    if not isinstance(value, dict) or not 1 <= len(value) <= _MOST_ROLES:
        return False
    return all([is_word(role) and _is_use(value[role]) for role in value])


def _wrong_part(roles, vouchers, needed, signers):
    """The name of the first wrong argument of Contents, or None."""
    if not _are_roles(roles):
        return "roles"
    if not are_different_keys(vouchers, _MOST_VOUCHERS):
        return "vouchers"
    if not is_integer(needed) or not 0 <= needed <= _MOST_NEEDED:
        return "needed"
    if signers is not None and not are_different_keys(signers, _MOST_VOUCHERS):
        return "signers"
    return None


def _in_order(words):
    """A new list of the different words of a list, in alphabetical order."""
    return sorted(set(words))


def _remaining(keys, lost):
    return [key for key in keys if key not in lost]


class Contents:
    """What an edition tells the services that hold it."""

    def __init__(self, roles, vouchers, *, needed=1, signers=None):
        part = _wrong_part(roles, vouchers, needed, signers)
        if part is not None:
            raise InvalidContents(part)
        # All is kept in alphabetical order, so that equal contents compare
        # equal, whatever the order was in which they were given.
        self._uses = {}
        for role in _in_order(list(roles)):
            accepted, used = roles[role]
            self._uses[role] = (_in_order(accepted), used)
        self._vouchers = _in_order(vouchers)
        self._needed = needed
        self._signers = _in_order(vouchers if signers is None else signers)

    @property
    def roles(self):
        """The names of the roles."""
        return list(self._uses)

    @property
    def vouchers(self):
        """The keys with which the holders of these contents check others."""
        return list(self._vouchers)

    @property
    def needed(self):
        """How many signers of other contents must be among the vouchers."""
        return self._needed

    @property
    def signers(self):
        """The keys that sign these contents."""
        return list(self._signers)

    def accepted(self, role):
        """The accepted keys of a role."""
        return list(self._use(role)[0])

    def used(self, role):
        """The used key of a role."""
        return self._use(role)[1]

    def _use(self, role):
        # Only a word is looked up, since other values may not be hashable.
        if not is_word(role) or role not in self._uses:
            raise UnknownName(role)
        return self._uses[role]

    def __eq__(self, other):
        return (
            isinstance(other, Contents)
            and self._uses == other._uses
            and self._vouchers == other._vouchers
            and self._needed == other._needed
            and self._signers == other._signers
        )

    def __contains__(self, x):
        if not is_word(x):
            return False
        return any([x in accepted for accepted, _ in self._uses.values()])

    def takes(self, other):
        """Whether a service that holds these contents takes others."""
        known = [key for key in other._signers if key in self._vouchers]
        return len(known) >= self._needed

    def all_keys(self):
        """All keys that have some part in these contents."""
        keys = self._vouchers + self._signers
        for accepted, used in self._uses.values():
            keys = keys + accepted + [used]
        return _in_order(keys)

    def changed(self, role, *, accepted=None, used=None):
        """Contents with other accepted keys or another used key in a role."""
        old_accepted, old_used = self._use(role)
        uses = dict(self._uses)
        uses[role] = (
            old_accepted if accepted is None else accepted,
            old_used if used is None else used,
        )
        return Contents(uses, self._vouchers, needed=self._needed, signers=self._signers)

    def revouched(self, *, vouchers=None, needed=None, signers=None):
        """Contents with other vouchers, needed number or signers."""
        # The signers are always told, so that they do not follow the vouchers.
        return Contents(
            self._uses,
            self._vouchers if vouchers is None else vouchers,
            needed=self._needed if needed is None else needed,
            signers=self._signers if signers is None else signers,
        )

    def without(self, lost):
        """Contents that neither accept, nor vouch with, nor are signed by lost keys."""
        if not is_key_list(lost):
            raise InvalidKeys(lost)
        uses = {}
        for role, (accepted, used) in self._uses.items():
            uses[role] = (_remaining(accepted, lost), used)
        return Contents(
            uses,
            _remaining(self._vouchers, lost),
            needed=self._needed,
            signers=_remaining(self._signers, lost),
        )
