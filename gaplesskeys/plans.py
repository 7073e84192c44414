"""Plans: editions with the moments at which they are published."""

from gaplesskeys.checks import is_index, is_moment, is_tuple_of
from gaplesskeys.contents import Contents
from gaplesskeys.errors import InvalidMoment, InvalidPlan, LimitExceeded, UnknownEdition

MOST_EDITIONS = 7


def _is_edition(value):
    """Whether a value is a tuple (moment, contents)."""
    return is_tuple_of(value, 2) and is_moment(value[0]) and isinstance(value[1], Contents)


def _first_wrong(editions):
    """The number of the first item of a list that cannot be this edition, or None."""
    for number, edition in enumerate(editions):
        if not _is_edition(edition):
            return number
        if number > 0 and edition[0] <= editions[number - 1][0]:
            return number
        if edition[1].roles != editions[0][1].roles:
            return number
    return None


class Plan:
    """One to seven editions, which follow each other."""

    # Each change puts a new list in the place of the old one. So an edition
    # that does not fit leaves no trace, and changed_by can go back.
    def __init__(self, editions):
        if not isinstance(editions, list) or not 1 <= len(editions) <= MOST_EDITIONS:
            raise InvalidPlan(None)
        wrong = _first_wrong(editions)
        if wrong is not None:
            raise InvalidPlan(wrong)
        self._editions = [(moment, contents) for moment, contents in editions]

    def __len__(self):
        return len(self._editions)

    def __iter__(self):
        raise TypeError("a plan is not iterated over")

    def __getitem__(self, at):
        self._check(at)
        return self._editions[at]

    def __setitem__(self, at, worth):
        self._check(at)
        editions = list(self._editions)
        editions[at] = worth
        if _first_wrong(editions) is not None:
            raise InvalidPlan(at)
        self._editions = [(moment, contents) for moment, contents in editions]

    def __eq__(self, other):
        return isinstance(other, Plan) and self._editions == other._editions

    def _check(self, number):
        if not is_index(number, len(self._editions)):
            raise UnknownEdition(number)

    def moment_of(self, number):
        """The moment at which an edition is published."""
        self._check(number)
        return self._editions[number][0]

    def contents_of(self, number):
        """The contents of an edition."""
        self._check(number)
        return self._editions[number][1]

    def moments(self):
        """The moments of all editions."""
        return [moment for moment, _ in self._editions]

    def current(self, moment):
        """The number of the edition that is current at a moment, or None."""
        if not is_moment(moment):
            raise InvalidMoment(moment)
        found = None
        for number, (published, _) in enumerate(self._editions):
            if published <= moment:
                found = number
        return found

    def add(self, moment, contents):
        """Adds an edition behind the last one and returns its number."""
        number = len(self._editions)
        if number == MOST_EDITIONS:
            raise LimitExceeded(MOST_EDITIONS)
        editions = [*self._editions, (moment, contents)]
        if _first_wrong(editions) is not None:
            raise InvalidPlan(number)
        self._editions = editions
        return number

    def drop(self):
        """Takes the last edition away."""
        if len(self._editions) == 1:
            raise UnknownEdition(0)
        self._editions = self._editions[:-1]

    def twin(self):
        """An equal plan that is independent of this one."""
        return Plan(self._editions)

    def cut(self, number):
        """A plan of the editions up to this one."""
        self._check(number)
        return Plan(self._editions[:number + 1])

    def changed_by(self, visitor):
        """What a visitor returns that is called with this plan.

        If the call raises, the plan is as it was before.
        """
        editions = self._editions
        try:
            found = visitor(self)
            editions = self._editions
        finally:
            self._editions = editions
        return found
