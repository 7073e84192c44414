"""Refusals and lockouts, told by the contents and the moments of editions.

There is one moment for each edition, and one of the contents, also for an
edition more than a plan can have. Nothing is checked here.
"""

from gaplesskeys.timing import held_span, jump_pairs, shown_span


def common_span(fleet, call, moments, made_in, shown_to):
    """When clients that held one edition can show their credentials to servers that hold another."""
    _, client, server, life = call
    shown = shown_span(moments, made_in, fleet.lateness(client), life)
    return shown & held_span(moments, shown_to, fleet.lateness(server))


def meeting_pairs(fleet, call, moments):
    """The pairs of editions of a client and a server that meet for a call, sorted."""
    numbers = range(len(moments))
    return [(one, two) for one in numbers for two in numbers if common_span(fleet, call, moments, one, two)]


def all_meetings(fleet, moments):
    """A triple of the call and the two editions for all that meet, sorted."""
    found = []
    for number, call in enumerate(fleet.calls()):
        found = found + [(number, *pair) for pair in meeting_pairs(fleet, call, moments)]
    return found


def all_jumps(fleet, moments):
    """A triple of the kind and the two editions for all jumps, sorted."""
    found = []
    for kind in fleet.names():
        found = found + [(kind, *pair) for pair in jump_pairs(moments, fleet.lateness(kind))]
    return found


def is_refused(contents, role, made_in, shown_to):
    """Whether servers that hold one edition refuse the used key of another."""
    return contents[made_in].used(role) not in contents[shown_to].accepted(role)


def refused(fleet, contents, met):
    """Those of some meetings that are refusals."""
    roles = [role for role, _, _, _ in fleet.calls()]
    return [(call, one, two) for call, one, two in met if is_refused(contents, roles[call], one, two)]


def locked_out(contents, jumped):
    """Those of some jumps that are lockouts."""
    return [(kind, early, late) for kind, early, late in jumped if not contents[early].takes(contents[late])]


def newest_meetings(fleet, moments):
    """The meetings in which the last edition takes part."""
    newest = len(moments) - 1
    return [(call, one, two) for call, one, two in all_meetings(fleet, moments) if newest in (one, two)]


def newest_jumps(fleet, moments):
    """The jumps to the last edition."""
    newest = len(moments) - 1
    return [(kind, early, late) for kind, early, late in all_jumps(fleet, moments) if late == newest]


def told_faults(call_faults, jump_faults):
    """Refusals and lockouts as tuples that tell which they are, sorted."""
    return [("call", *fault) for fault in call_faults] + [("jump", *fault) for fault in jump_faults]
