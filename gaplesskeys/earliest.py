"""The earliest and the latest moments for contents, or a ring of rules that cannot hold together."""

from gaplesskeys.checks import check_days, is_between, is_integer
from gaplesskeys.editions import check_contents, check_list
from gaplesskeys.errors import InvalidMoment, InvalidPlan
from gaplesskeys.fleets import LONGEST
from gaplesskeys.plans import Plan
from gaplesskeys.ruling import call_rules, day_rules, greatest_rules, life_rules, order_rules, take_rules
from gaplesskeys.solving import greatest_moments, holds, least_moments, ring_of


def _check(contents, fleet, start, days, lives):
    """Raises an error if something is wrong of what rules are made of."""
    check_contents(contents, fleet)
    if not is_between(start, 0, LONGEST):
        raise InvalidMoment(start)
    for table in (days, lives):
        if table is not None:
            check_days(table, contents[0].roles)


def rules(contents, fleet, *, start=0, days=None, lives=None):
    """The rules (later, earlier, wait) for the moments of contents, sorted."""
    _check(contents, fleet, start, days, lives)
    found = order_rules(len(contents), start) + call_rules(contents, fleet) + take_rules(contents, fleet)
    if days is not None:
        found = found + day_rules(contents, fleet, days)
    if lives is not None:
        found = found + life_rules(contents, fleet, lives)
    return greatest_rules(found)


def earliest(contents, fleet, *, start=0, days=None, lives=None):
    """The least moments that satisfy all rules, or None."""
    found = rules(contents, fleet, start=start, days=days, lives=lives)
    return least_moments(found, len(contents))


def latest(contents, fleet, *, start=0, days=None, lives=None):
    """The greatest moments that satisfy all rules, None for one without a bound, or None."""
    found = rules(contents, fleet, start=start, days=days, lives=lives)
    if least_moments(found, len(contents)) is None:
        return None
    return greatest_moments(found, len(contents))


def find_ring(contents, fleet, *, start=0, days=None, lives=None):
    """A ring of the rules, or None."""
    found = rules(contents, fleet, start=start, days=days, lives=lives)
    return ring_of(found, len(contents))


def _is_rule(value, found):
    """Whether a value is one of some rules."""
    # True equals 1, so that it is not enough that they are equal.
    return isinstance(value, tuple) and all([is_integer(item) for item in value]) and value in found


def is_ring(contents, fleet, candidate, *, start=0, days=None, lives=None):
    """Whether a value is a ring of the rules."""
    found = rules(contents, fleet, start=start, days=days, lives=lives)
    if not isinstance(candidate, list) or not candidate:
        return False
    if not all([_is_rule(rule, found) for rule in candidate]) or len(set(candidate)) != len(candidate):
        return False
    # The last rule is the one ahead of the first one, and has the number -1.
    if any([candidate[at][1] != candidate[at - 1][0] for at in range(len(candidate))]):
        return False
    return sum([wait for _, _, wait in candidate]) > 0


def satisfies(contents, fleet, moments, *, start=0, days=None, lives=None):
    """Whether a value is a list of moments that satisfies all rules."""
    found = rules(contents, fleet, start=start, days=days, lives=lives)
    if not isinstance(moments, list) or len(moments) != len(contents):
        return False
    if not all([is_integer(moment) and moment >= 0 for moment in moments]):
        return False
    return all([holds(rule, [*moments, 0]) for rule in found])


def plan_of(contents, moments):
    """The plan of contents with these moments."""
    check_list(contents)
    if not isinstance(moments, list) or len(moments) != len(contents):
        raise InvalidPlan(None)
    return Plan([(moments[number], contents[number]) for number in range(len(contents))])
