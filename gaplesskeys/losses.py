"""Whether lost keys can be replaced at every moment, and what that needs."""

from gaplesskeys.checks import check_roles, is_between, is_different_key_list
from gaplesskeys.editions import check_later, contents_in
from gaplesskeys.emergencies import call_harms, core_of, cores_of, emergency_of, is_harmful
from gaplesskeys.errors import InvalidKeys, NoKeyLeft, UnknownName
from gaplesskeys.faults import locked_out, newest_jumps, newest_meetings, told_faults
from gaplesskeys.plans import Plan
from gaplesskeys.serving import server_kinds
from gaplesskeys.timing import held_span

_MOST_LOST = 3


def _check_lost(plan, fleet, number, lost):
    """Raises an error if a call, an edition or a list of lost keys is wrong."""
    check_roles(plan.contents_of(0), fleet)
    # This raises if there is no such edition.
    plan.moment_of(number)
    if not is_different_key_list(lost):
        raise InvalidKeys(lost)


def _check_size(size):
    if not is_between(size, 1, _MOST_LOST):
        raise InvalidKeys(size)


def core(plan, fleet, number, role):
    """The keys of a role that all accept straight behind an edition, in alphabetical order."""
    check_roles(plan.contents_of(0), fleet)
    # This raises if there is no such edition, or else if there is no such role.
    plan.contents_of(number).used(role)
    return core_of(contents_in(plan)[:number + 1], fleet, plan.moments()[:number + 1], role)


def _found_emergency(plan, fleet, number, lost):
    contents = contents_in(plan)[:number + 1]
    cores = cores_of(contents, fleet, plan.moments()[:number + 1])
    return emergency_of(contents[number], cores, lost)


def emergency(plan, fleet, number, lost):
    """The contents to be published behind an edition when keys are lost."""
    _check_lost(plan, fleet, number, lost)
    return _found_emergency(plan, fleet, number, lost)


def harms(plan, fleet, number, lost, moment):
    """The faults with the emergency contents at a moment, but those with lost keys, sorted."""
    _check_lost(plan, fleet, number, lost)
    check_later(plan, number, moment)
    contents = [*contents_in(plan)[:number + 1], _found_emergency(plan, fleet, number, lost)]
    moments = [*plan.moments()[:number + 1], moment]
    call_faults = call_harms(fleet, contents, newest_meetings(fleet, moments), lost)
    return told_faults(call_faults, locked_out(contents, newest_jumps(fleet, moments)))


def _parts_of(contents):
    """The keys that are not the same in emergency contents if they are lost, in alphabetical order."""
    keys = contents.vouchers
    for role in contents.roles:
        keys = keys + contents.accepted(role) + [contents.used(role)]
    return sorted(set(keys))


def _lists_of(keys, size):
    """All sorted lists of at most size of the keys, first the short ones."""
    found = [[]]
    longest = [[]]
    for _ in range(size):
        longest = [[*lost, key] for lost in longest for key in keys if not lost or key > lost[-1]]
        found = found + longest
    return found


def _first_lost(plan, fleet, number, size):
    """The first list of keys whose loss does harm straight behind an edition, or None."""
    contents = contents_in(plan)[:number + 1]
    moments = plan.moments()[:number + 1]
    cores = cores_of(contents, fleet, moments)
    # All but the contents is the same for all lists.
    later = [*moments, moments[number] + 1]
    met = newest_meetings(fleet, later)
    jumped = newest_jumps(fleet, later)
    # The loss of any other key leaves the emergency contents as they are, and
    # takes harms away at most, so that no such key is in the first list.
    for lost in _lists_of(_parts_of(contents[number]), size):
        try:
            made = emergency_of(contents[number], cores, lost)
        except NoKeyLeft:
            return lost
        if is_harmful(fleet, [*contents, made], met, jumped, lost):
            return lost
    return None


def unready(plan, fleet, size):
    """The first edition and list of lost keys that cannot be replaced without harm, or None."""
    check_roles(plan.contents_of(0), fleet)
    _check_size(size)
    for number in range(len(plan)):
        lost = _first_lost(plan, fleet, number, size)
        if lost is not None:
            return number, lost
    return None


def is_ready(plan, fleet, size):
    """Whether so many lost keys can be replaced without harm behind each edition."""
    return unready(plan, fleet, size) is None


def fewest_spares(plan, fleet, size):
    """How many further keys each role needs so that each core has more than size keys."""
    check_roles(plan.contents_of(0), fleet)
    _check_size(size)
    found = {}
    for role in plan.contents_of(0).roles:
        least = min([len(core(plan, fleet, number, role)) for number in range(len(plan))])
        found[role] = max(0, size + 1 - least)
    return found


def with_spares(plan, role, spares):
    """The plan in which each edition accepts further keys in a role."""
    if role not in plan.contents_of(0).roles:
        raise UnknownName(role)
    contents = contents_in(plan)
    taken = [key for found in contents for key in found.all_keys()]
    if not is_different_key_list(spares) or any([key in taken for key in spares]):
        raise InvalidKeys(spares)
    made = [found.changed(role, accepted=found.accepted(role) + spares) for found in contents]
    return Plan([(plan.moment_of(number), made[number]) for number in range(len(plan))])


def forgeable(plan, size):
    """The numbers of the editions whose holders take contents that lost keys signed."""
    _check_size(size)
    contents = contents_in(plan)
    return [number for number in range(len(plan)) if contents[number].needed <= size
            and contents[number].needed <= len(contents[number].vouchers)]


def exposure(plan, fleet, number, lost, moment):
    """The last moment at which a lost key is accepted if an emergency is published then, or None."""
    _check_lost(plan, fleet, number, lost)
    check_later(plan, number, moment)
    moments = [*plan.moments()[:number + 1], moment]
    last = None
    for role in plan.contents_of(number).roles:
        latenesses = [fleet.lateness(kind) for kind in server_kinds(fleet, role)]
        for early in range(number + 1):
            if not any([key in lost for key in plan.contents_of(early).accepted(role)]):
                continue
            for lateness in latenesses:
                end = held_span(moments, early, lateness).last
                if last is None or end > last:
                    last = end
    return last
