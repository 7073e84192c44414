"""The emergency contents that replace lost keys, and the harm that they do.

Lists of contents and of moments end with the edition behind which the
emergency is published. Nothing is checked here.
"""

from gaplesskeys.errors import NoKeyLeft
from gaplesskeys.faults import locked_out, refused
from gaplesskeys.serving import server_kinds
from gaplesskeys.timing import held_span


def core_of(contents, fleet, moments, role):
    """The keys that all accept in a role straight behind the last edition, in alphabetical order."""
    newest = len(contents) - 1
    moment = moments[newest] + 1
    latenesses = [fleet.lateness(kind) for kind in server_kinds(fleet, role)]
    keys = contents[newest].accepted(role)
    for early in range(newest):
        if any([moment in held_span(moments, early, lateness) for lateness in latenesses]):
            keys = [key for key in keys if key in contents[early].accepted(role)]
    return keys


def cores_of(contents, fleet, moments):
    """The core of each role."""
    return {role: core_of(contents, fleet, moments, role) for role in contents[-1].roles}


def emergency_of(contents, cores, lost):
    """The emergency contents behind some contents with these cores."""
    found = contents.without(lost)
    for role in contents.roles:
        if contents.used(role) not in lost:
            continue
        left = [key for key in cores[role] if key not in lost]
        if not left:
            raise NoKeyLeft(role)
        found = found.changed(role, used=left[0])
    return found.revouched(signers=found.vouchers)


def call_harms(fleet, contents, met, lost):
    """Those of some meetings in which a call is refused whose key is not lost."""
    roles = [role for role, _, _, _ in fleet.calls()]
    return [row for row in refused(fleet, contents, met) if contents[row[1]].used(roles[row[0]]) not in lost]


def is_harmful(fleet, contents, met, jumped, lost):
    """Whether some of the meetings and jumps do harm."""
    return len(call_harms(fleet, contents, met, lost)) > 0 or len(locked_out(contents, jumped)) > 0
