"""The fewest editions that lead from one state to another."""

from gaplesskeys.checks import check_roles, is_between, is_integer
from gaplesskeys.earliest import rules
from gaplesskeys.editions import are_alike
from gaplesskeys.errors import InvalidContents, InvalidKeys

_LONGEST_MENU = 30
_MOST_ACCEPTED = 8


def _check(first, last, menu, fleet):
    """Raises an error if the contents of a path cannot be such."""
    if not isinstance(menu, list) or len(menu) > _LONGEST_MENU or not are_alike([first, last, *menu]):
        raise InvalidContents(None)
    check_roles(first, fleet)


def _fit(contents, fleet):
    """Whether contents can follow each other without a fault between them and in each of them."""
    return not any([later == earlier for later, earlier, _ in rules(contents, fleet)])


def _lead_on(first, second, fleet, undoable):
    """Whether contents get along with others, undoably if that is asked for."""
    if not _fit([first, second], fleet):
        return False
    if not undoable:
        return True
    # A late service reads the first contents again straight behind themselves.
    is_late = any([fleet.lateness(kind) > 1 for kind in fleet.names()])
    return _fit([second, first], fleet) and (first.takes(first) or not is_late)


def get_along(first, last, fleet, *, undoable=False):
    """Whether two contents can follow each other in this order without a fault."""
    # The rules for the two raise what is wrong with them.
    return _lead_on(first, last, fleet, undoable)


class KeyLimit:
    """Allows contents each role of which accepts at most so many keys."""

    def __init__(self, most):
        if not is_between(most, 0, _MOST_ACCEPTED):
            raise InvalidKeys(most)
        self._most = most

    @property
    def most(self):
        """The greatest number of keys."""
        return self._most

    def __call__(self, contents):
        return all([len(contents.accepted(role)) <= self._most for role in contents.roles])


def _places_allowed(menu, allowed):
    """Whether each of first, the menu and last may stand at its place in a path."""
    return [True] + [allowed is None or bool(allowed(contents)) for contents in menu] + [True]


def _steps(row, places, fleet, undoable):
    """The pairs of places of which the contents of the first get along with those of the second."""
    # Paths begin with the first place and end with the last one.
    befores = [at for at in range(len(row) - 1) if places[at]]
    afters = [at for at in range(1, len(row)) if places[at]]
    return [(one, two) for one in befores for two in afters if _lead_on(row[one], row[two], fleet, undoable)]


def _begun_labels(row, places, fleet):
    """The labels of what is equal to the first contents, and None elsewhere."""
    if not _fit([row[0]], fleet):
        return [None] * len(row)
    return [0 if places[at] and row[at] == row[0] else None for at in range(len(row))]


def _walked(row, places, fleet, undoable):
    """The labels, and for each place behind the first step the place ahead of it."""
    found = _begun_labels(row, places, fleet)
    ahead = {}
    steps = _steps(row, places, fleet, undoable)
    for label in range(len(row)):
        for one, two in steps:
            if found[one] == label and found[two] is None:
                found[two] = label + 1
                ahead[two] = one
    return found, ahead


def fewest(first, last, menu, fleet, *, undoable=False, allowed=None):
    """A path with the fewest steps, or None."""
    _check(first, last, menu, fleet)
    row = [first, *menu, last]
    found, ahead = _walked(row, _places_allowed(menu, allowed), fleet, undoable)
    at = len(row) - 1
    if found[at] is None:
        return None
    path = [row[at]]
    while at in ahead:
        at = ahead[at]
        path = [row[at], *path]
    return path


def labels(first, last, menu, fleet, *, undoable=False, allowed=None):
    """The least numbers of steps to first, the contents of the menu and last, None for no path."""
    _check(first, last, menu, fleet)
    row = [first, *menu, last]
    found, _ = _walked(row, _places_allowed(menu, allowed), fleet, undoable)
    return found


def _are_numbers(candidate, many):
    """Whether a value is a list of so many items that are None or integers of at least 0."""
    if not isinstance(candidate, list) or len(candidate) != many:
        return False
    return all([label is None or is_integer(label) and label >= 0 for label in candidate])


def are_labels(first, last, menu, fleet, candidate, *, undoable=False, allowed=None):
    """Whether a value is a list of labels that show that no path has fewer steps."""
    _check(first, last, menu, fleet)
    row = [first, *menu, last]
    places = _places_allowed(menu, allowed)
    if not _are_numbers(candidate, len(row)):
        return False
    begun = _begun_labels(row, places, fleet)
    for at in range(len(row)):
        if not places[at] and candidate[at] is not None:
            return False
        if places[at] and row[at] == first and candidate[at] != begun[at]:
            return False
    for one, two in _steps(row, places, fleet, undoable):
        if candidate[one] is None:
            continue
        if candidate[two] is None or candidate[two] > candidate[one] + 1:
            return False
    return True
