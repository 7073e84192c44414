"""A publisher that publishes as early as the reports of its services let it."""

from gaplesskeys.checks import check_roles, is_index, is_moment, is_word
from gaplesskeys.contents import Contents
from gaplesskeys.editions import have_roles
from gaplesskeys.errors import (
    InvalidContents, InvalidKind, InvalidMoment, InvalidReport, LimitExceeded, TooSoon, UnknownEdition, UnknownName,
)
from gaplesskeys.plans import MOST_EDITIONS, Plan
from gaplesskeys.reading import last_holding

_MOST_SERVICES = 12


def _are_services(services, fleet):
    """Whether a value is a dict from names of services to kinds next to the publisher."""
    if not isinstance(services, dict) or len(services) > _MOST_SERVICES:
        return False
    if not all([is_word(name) and services[name] in fleet for name in services]):
        return False
    return all([fleet[services[name]].source is None for name in services])


class Publisher:
    """Publishes editions to named services, and notes the reports that they read them."""

    def __init__(self, fleet, services, contents, moment):
        if not _are_services(services, fleet):
            raise InvalidKind(services)
        if not isinstance(contents, Contents):
            raise InvalidContents(None)
        check_roles(contents, fleet)
        if not is_moment(moment):
            raise InvalidMoment(moment)
        self._calls = fleet.calls()
        # The names of the kinds are for the calls, the kinds for the rest.
        self._names = dict(services)
        self._kinds = {name: fleet[services[name]] for name in services}
        self._reports = {name: {} for name in services}
        self._plan = Plan([(moment, contents)])
        self._now = moment

    @classmethod
    def resumed(cls, fleet, services, plan, moment):
        """A publisher that has published a plan and knows no reports."""
        made = cls(fleet, services, plan.contents_of(0), plan.moment_of(0))
        if not is_moment(moment) or moment < plan.moment_of(len(plan) - 1):
            raise InvalidMoment(moment)
        made._plan = plan.twin()
        made._now = moment
        return made

    @property
    def now(self):
        """The present moment."""
        return self._now

    @property
    def published(self):
        """A new plan of the published editions."""
        return self._plan.twin()

    def wait(self, moment):
        """Makes a moment the present one."""
        if not is_moment(moment) or moment < self._now:
            raise InvalidMoment(moment)
        self._now = moment

    def report(self, name, moment):
        """Notes that a service read the publisher at a moment."""
        self._check_name(name)
        if not is_moment(moment) or not self._plan.moment_of(0) <= moment < self._now:
            raise InvalidReport(moment)
        if moment in self._reports[name]:
            raise InvalidReport(moment)
        self._reports[name][moment] = True

    def reports(self, name):
        """The reported moments of a service, ascending."""
        self._check_name(name)
        return sorted(set(self._reports[name]))

    def last_held(self, name, number):
        """The last moment at which a service can hold an edition, None for the last one."""
        self._check_name(name)
        if not is_index(number, len(self._plan)):
            raise UnknownEdition(number)
        if number + 1 == len(self._plan):
            return None
        return self._last_held(name, number, self._plan.moment_of(number + 1))

    def earliest(self, contents):
        """The least moment at which contents may be published, or None."""
        self._check_contents(contents)
        if self._refuses_itself(contents):
            return None
        newest = len(self._plan) - 1
        moment = max(self._now, int(self._plan.moment_of(newest)) + 1)
        holdings = self._hindering(contents)
        for name, number, delay in holdings:
            if number < newest:
                end = self._last_held(name, number, self._plan.moment_of(number + 1)) + delay
                moment = max(moment, int(end) + 1)
        # Until when the last edition is held depends on the moment itself, so
        # that waiting does not help where that is too late.
        for name, number, delay in holdings:
            if number == newest and self._last_held(name, number, moment) + delay >= moment:
                return None
        return moment

    def publish(self, contents):
        """Publishes contents at the present moment and returns the number of the edition."""
        moment = self.earliest(contents)
        if len(self._plan) == MOST_EDITIONS:
            raise LimitExceeded(MOST_EDITIONS)
        if moment != self._now:
            raise TooSoon(moment)
        return self._plan.add(moment, contents)

    def _check_name(self, name):
        # Only a word is looked up, since other values may not be hashable.
        if not is_word(name) or name not in self._names:
            raise UnknownName(name)

    def _check_contents(self, contents):
        if not have_roles(contents, self._plan.contents_of(0).roles):
            raise InvalidContents(None)

    def _last_held(self, name, number, following):
        """The last moment at which a service can hold an edition if the next one is published then."""
        return last_holding(self._kinds[name], self._reports[name], following)

    def _pairs(self, call):
        """The pairs of different services that can be the client and the server of a call."""
        _, client, server, _ = call
        clients = [name for name in self._names if self._names[name] == client]
        servers = [name for name in self._names if self._names[name] == server]
        return [(one, two) for one in clients for two in servers if one != two]

    def _refuses_itself(self, contents):
        """Whether two services that hold contents refuse each other's calls."""
        calls = [call for call in self._calls if self._pairs(call)]
        return any([contents.used(role) not in contents.accepted(role) for role, _, _, _ in calls])

    def _hindering(self, contents):
        """Which services may not hold which editions any more when contents are published.

        A triple (name, number, delay) says that it must be over more than the
        delay before that moment.
        """
        found = []
        for number in range(len(self._plan)):
            held = self._plan.contents_of(number)
            if not held.takes(contents):
                # Who holds an edition at the moment ahead may read the contents next.
                found = found + [(name, number, 1) for name in self._names]
            for call in self._calls:
                role, _, _, life = call
                if held.used(role) not in contents.accepted(role):
                    found = found + [(client, number, life) for client, _ in self._pairs(call)]
                if contents.used(role) not in held.accepted(role):
                    found = found + [(server, number, 0) for _, server in self._pairs(call)]
        return sorted(set(found))
