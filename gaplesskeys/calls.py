"""Which editions meet in calls, and which calls can be refused."""

from gaplesskeys.checks import check_roles, is_index
from gaplesskeys.editions import contents_in
from gaplesskeys.errors import InvalidCall
from gaplesskeys.faults import all_meetings, common_span, meeting_pairs, refused
from gaplesskeys.holding import lockouts
from gaplesskeys.showing import holding_machines
from gaplesskeys.timing import held_span


def _checked_call(plan, fleet, call):
    """The tuple (role, client, server, life) of a call."""
    check_roles(plan.contents_of(0), fleet)
    calls = fleet.calls()
    if not is_index(call, len(calls)):
        raise InvalidCall(call)
    return calls[call]


def meetings(plan, fleet, call):
    """The pairs of editions of a client and a server that meet for a call, sorted."""
    return meeting_pairs(fleet, _checked_call(plan, fleet, call), plan.moments())


def refusals(plan, fleet):
    """Yields each triple of a call, a client's edition and a server's one that refuses it, sorted."""
    check_roles(plan.contents_of(0), fleet)
    for found in refused(fleet, contents_in(plan), all_meetings(fleet, plan.moments())):
        yield found


def is_faultless(plan, fleet):
    """Whether no call can be refused and no service can be locked out."""
    return not list(refusals(plan, fleet)) and not lockouts(plan, fleet)


def meeting_run(plan, fleet, call, early, late):
    """A run in which a client that holds one edition meets a server that holds another, or None."""
    found = _checked_call(plan, fleet, call)
    # These raise if there are no such editions.
    plan.moment_of(early)
    plan.moment_of(late)
    moment = common_span(fleet, found, plan.moments(), early, late).first
    if moment is None:
        return None
    _, client, server, _ = found
    last = held_span(plan.moments(), early, fleet.lateness(client)).last
    made = moment if last is None or moment < last else last
    clients = holding_machines(plan, fleet, client, early, made, 0)
    servers = holding_machines(plan, fleet, server, late, moment, len(clients))
    machines = (*clients, *servers)
    shown = (call, len(clients) - 1, made, len(machines) - 1, moment)
    return machines, (shown,)
