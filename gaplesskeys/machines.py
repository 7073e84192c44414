"""Runs: machines that begin and pull, and the credentials that they show."""

from gaplesskeys.checks import check_roles, is_index, is_moment, is_short_tuple, is_tuple_of
from gaplesskeys.errors import InvalidMoment, InvalidRun
from gaplesskeys.playing import MOST_ITEMS, answer, played


def _has_form(run):
    """Whether a value is a tuple of two tuples that are not too long."""
    return is_tuple_of(run, 2) and all([is_short_tuple(part, MOST_ITEMS) for part in run])


class World:
    """A run that is played."""

    def __init__(self, plan, fleet, run):
        check_roles(plan.contents_of(0), fleet)
        if not _has_form(run):
            raise InvalidRun(None)
        machines, shown = run
        # All is played at once, since the plan and the fleet may change later.
        self._histories = []
        for number, machine in enumerate(machines):
            history = played(plan, fleet, machine, self._histories)
            if history is None:
                raise InvalidRun(number)
            self._histories.append(history)
        self._answers = []
        for number, credential in enumerate(shown):
            accepted = answer(plan, fleet, credential, self._histories)
            if accepted is None:
                raise InvalidRun(-1 - number)
            self._answers.append(accepted)

    def held(self, machine, moment):
        """The number of the edition that a machine holds at a moment, or None."""
        history = self._history(machine)
        if not is_moment(moment):
            raise InvalidMoment(moment)
        return history.edition_at(moment)

    def lockout(self, machine):
        """The moment of a lockout, and the editions that were held and read, or None."""
        return self._history(machine).locked

    def answers(self):
        """Whether each of the shown credentials was accepted."""
        return list(self._answers)

    def _history(self, machine):
        if not is_index(machine, len(self._histories)):
            raise InvalidRun(machine)
        return self._histories[machine]


def is_run(plan, fleet, candidate):
    """Whether a value is a run of a plan and a fleet."""
    try:
        World(plan, fleet, candidate)
    except InvalidRun:
        return False
    return True
