"""Plays the machines and the shown credentials of a run, one by one.

Each value may be any value here; what is wrong is answered by None.
"""

from gaplesskeys.checks import is_index, is_moment, is_short_tuple, is_tuple_of
from gaplesskeys.histories import History

# The most machines, pulls of a machine, and shown credentials.
MOST_ITEMS = 40


def _are_pulls(pulls, begun, gap):
    """Whether the moments of pulls fit a machine that begins at a moment."""
    if not is_short_tuple(pulls, MOST_ITEMS):
        return False
    ahead = begun
    for pull in pulls:
        if not is_tuple_of(pull, 2) or not is_moment(pull[0]):
            return False
        if not ahead < pull[0] <= ahead + gap:
            return False
        ahead = pull[0]
    return True


def _edition_read(plan, source_name, histories, reader, moment):
    """The edition that is read at a moment from the publisher or from a machine."""
    if source_name is None:
        # Nothing is told ahead of the first edition, so no machine begins there.
        return plan.current(moment) if reader is None else None
    if not is_index(reader, len(histories)) or histories[reader].kind_name != source_name:
        return None
    return histories[reader].edition_at(moment)


def _edition_copied(histories, name, age, copy, begun):
    """The edition in a copy from which a machine begins."""
    if age is None or len(copy) != 2:
        return None
    number, moment = copy
    if not is_index(number, len(histories)) or not is_moment(moment):
        return None
    donor = histories[number]
    if donor.kind_name != name or not begun - age <= moment <= begun:
        return None
    if donor.is_copy and not donor.has_pulled_by(moment):
        return None
    return donor.edition_at(moment)


def _begun_history(plan, name, kind, histories, begun, origin):
    """The history of a machine at its beginning."""
    is_copy = isinstance(origin, tuple)
    if is_copy:
        edition = _edition_copied(histories, name, kind.age, origin, begun)
    else:
        edition = _edition_read(plan, kind.source, histories, origin, begun)
    if edition is None:
        return None
    return History(name, kind.gap, begun, edition, is_copy)


def played(plan, fleet, machine, histories):
    """The history of a machine behind those with smaller numbers."""
    if not is_tuple_of(machine, 4):
        return None
    name, begun, origin, pulls = machine
    if name not in fleet or not is_moment(begun):
        return None
    kind = fleet[name]
    if not _are_pulls(pulls, begun, kind.gap):
        return None
    history = _begun_history(plan, name, kind, histories, begun, origin)
    if history is None:
        return None
    for moment, source in pulls:
        read = _edition_read(plan, kind.source, histories, source, moment)
        if read is None:
            return None
        history.pull(plan, moment, read)
    return history


def _edition_of(histories, number, name, moment):
    """The edition that a machine of a kind holds at a moment."""
    if not is_index(number, len(histories)) or histories[number].kind_name != name:
        return None
    return histories[number].edition_at(moment)


def answer(plan, fleet, credential, histories):
    """Whether a shown credential is accepted."""
    if not is_tuple_of(credential, 5):
        return None
    call, client, made, server, moment = credential
    calls = fleet.calls()
    if not is_index(call, len(calls)) or not is_moment(made) or not is_moment(moment):
        return None
    role, client_name, server_name, life = calls[call]
    if client == server or not made <= moment <= made + life:
        return None
    used_in = _edition_of(histories, client, client_name, made)
    shown_to = _edition_of(histories, server, server_name, moment)
    if used_in is None or shown_to is None:
        return None
    return plan.contents_of(used_in).used(role) in plan.contents_of(shown_to).accepted(role)
