"""Until when keys are accepted: last days and lifetimes."""

from gaplesskeys.checks import check_roles, is_integer, is_moment, is_tuple_of, is_word
from gaplesskeys.errors import InvalidDays, InvalidKeys, UnknownName
from gaplesskeys.holding import held_range
from gaplesskeys.ranges import Range
from gaplesskeys.showing import holding_machines


def _check_days(plan, fleet, days):
    """Raises an error if days, or lifetimes, are none of the plan."""
    check_roles(plan.contents_of(0), fleet)
    if not isinstance(days, dict):
        raise InvalidDays(days)
    roles = plan.contents_of(0).roles
    for place in days:
        if not is_tuple_of(place, 2) or not is_moment(days[place]):
            raise InvalidDays(days)
        if place[0] not in roles or not is_word(place[1]):
            raise InvalidDays(days)


def _server_kinds(fleet, role):
    """The server kinds of a role, in alphabetical order."""
    return sorted(set([server for name, _, server, _ in fleet.calls() if name == role]))


def _accepting(plan, role, key):
    """The numbers of the editions that accept a key in a role."""
    return [number for number in range(len(plan)) if key in plan.contents_of(number).accepted(role)]


def _ranges_of(plan, fleet, role, key):
    """The moments at which a key can be accepted in a role, as ranges in ascending order."""
    found = []
    for number in _accepting(plan, role, key):
        for kind in _server_kinds(fleet, role):
            held = held_range(plan, fleet, kind, number)
            # They come in the order of their first moments, and only the last
            # one of those found so far can reach this one.
            whole = found[-1].joined(held) if found else None
            if whole is None:
                found.append(held)
            else:
                found[-1] = whole
    return found


def accepted_ranges(plan, fleet, role, key):
    """The moments at which some service can accept a key in a role, as few ranges."""
    check_roles(plan.contents_of(0), fleet)
    if role not in plan.contents_of(0).roles:
        raise UnknownName(role)
    if not is_word(key):
        raise InvalidKeys(key)
    return _ranges_of(plan, fleet, role, key)


def late(plan, fleet, days):
    """The tuples (role, key, kind, edition) of keys that are accepted on or after their day, sorted."""
    _check_days(plan, fleet, days)
    found = []
    for role, key in sorted(set(days)):
        behind = Range(days[(role, key)], None)
        for kind in _server_kinds(fleet, role):
            for number in _accepting(plan, role, key):
                if held_range(plan, fleet, kind, number) & behind:
                    found.append((role, key, kind, number))
    return found


def late_run(plan, fleet, days, candidate):
    """A run whose last machine holds the edition of a late tuple then, or None."""
    found = late(plan, fleet, days)
    if candidate not in found or not is_integer(candidate[3]):
        return None
    role, key, kind, number = candidate
    day = days[(role, key)]
    published = plan.moment_of(number)
    moment = day if day > published else published
    return tuple(holding_machines(plan, fleet, kind, number, moment, 0)), ()


def outlived(plan, fleet, lives):
    """The tuples (role, key) of keys that are accepted longer than they may, sorted."""
    _check_days(plan, fleet, lives)
    found = []
    for role, key in sorted(set(lives)):
        ranges = _ranges_of(plan, fleet, role, key)
        if not ranges:
            continue
        last = ranges[-1].last
        # The first of the ranges begins when the first accepting edition is published.
        if last is None or last - ranges[0].first > lives[(role, key)]:
            found.append((role, key))
    return found
