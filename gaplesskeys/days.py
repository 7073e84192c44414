"""Until when keys are accepted: last days and lifetimes."""

from gaplesskeys.checks import check_days, check_roles, is_integer, is_word
from gaplesskeys.editions import contents_in
from gaplesskeys.errors import InvalidKeys, UnknownName
from gaplesskeys.holding import held_range
from gaplesskeys.ranges import Range
from gaplesskeys.serving import accepting, server_kinds
from gaplesskeys.showing import holding_machines


def _check(plan, fleet, days):
    """Raises an error if days, or lifetimes, are none of the plan."""
    check_roles(plan.contents_of(0), fleet)
    check_days(days, plan.contents_of(0).roles)


def _ranges_of(plan, fleet, role, key):
    """The moments at which a key can be accepted in a role, as ranges in ascending order."""
    found = []
    for number in accepting(contents_in(plan), role, key):
        for kind in server_kinds(fleet, role):
            held = held_range(plan, fleet, kind, number)
            # They come in the order of their first moments, and only the last
            # one of those found so far can reach this one.
            whole = found[-1].joined(held) if found else None
            if whole is None:
                found.append(held)
            else:
                found[-1] = whole
    return found


def accepted_ranges(plan, fleet, role, key):
    """The moments at which some service can accept a key in a role, as few ranges."""
    check_roles(plan.contents_of(0), fleet)
    if role not in plan.contents_of(0).roles:
        raise UnknownName(role)
    if not is_word(key):
        raise InvalidKeys(key)
    return _ranges_of(plan, fleet, role, key)


def late(plan, fleet, days):
    """The tuples (role, key, kind, edition) of keys that are accepted on or after their day, sorted."""
    _check(plan, fleet, days)
    found = []
    for role, key in sorted(set(days)):
        behind = Range(days[(role, key)], None)
        for kind in server_kinds(fleet, role):
            for number in accepting(contents_in(plan), role, key):
                if held_range(plan, fleet, kind, number) & behind:
                    found.append((role, key, kind, number))
    return found


def late_run(plan, fleet, days, candidate):
    """A run whose last machine holds the edition of a late tuple then, or None."""
    found = late(plan, fleet, days)
    if candidate not in found or not is_integer(candidate[3]):
        return None
    role, key, kind, number = candidate
    day = days[(role, key)]
    published = plan.moment_of(number)
    moment = day if day > published else published
    return tuple(holding_machines(plan, fleet, kind, number, moment, 0)), ()


def outlived(plan, fleet, lives):
    """The tuples (role, key) of keys that are accepted longer than they may, sorted."""
    _check(plan, fleet, lives)
    found = []
    for role, key in sorted(set(lives)):
        ranges = _ranges_of(plan, fleet, role, key)
        if not ranges:
            continue
        last = ranges[-1].last
        # The first of the ranges begins when the first accepting edition is published.
        if last is None or last - ranges[0].first > lives[(role, key)]:
            found.append((role, key))
    return found
