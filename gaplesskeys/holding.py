"""What the services of a kind can hold, and what they can read straight behind it."""

from gaplesskeys.checks import check_roles, is_moment
from gaplesskeys.editions import contents_in
from gaplesskeys.errors import InvalidMoment
from gaplesskeys.faults import all_jumps, locked_out
from gaplesskeys.showing import holding_machines, source_machines, source_number
from gaplesskeys.timing import held_span, jump_pairs


def held_range(plan, fleet, kind, number):
    """The moments at which services of a kind can hold an edition."""
    check_roles(plan.contents_of(0), fleet)
    lateness = fleet.lateness(kind)
    # This raises if there is no such edition.
    plan.moment_of(number)
    return held_span(plan.moments(), number, lateness)


def held_by(plan, fleet, kind, moment):
    """The numbers of the editions that services of a kind can hold at a moment."""
    check_roles(plan.contents_of(0), fleet)
    lateness = fleet.lateness(kind)
    if not is_moment(moment):
        raise InvalidMoment(moment)
    moments = plan.moments()
    return [number for number in range(len(moments)) if moment in held_span(moments, number, lateness)]


def jumps(plan, fleet, kind):
    """The pairs of editions that services of a kind can read straight behind each other."""
    check_roles(plan.contents_of(0), fleet)
    return jump_pairs(plan.moments(), fleet.lateness(kind))


def lockouts(plan, fleet):
    """The jumps of all kinds at which the earlier contents do not take the later ones."""
    check_roles(plan.contents_of(0), fleet)
    return locked_out(contents_in(plan), all_jumps(fleet, plan.moments()))


def held_run(plan, fleet, kind, number, moment):
    """A run in which a service of a kind holds an edition at a moment, or None."""
    held = held_range(plan, fleet, kind, number)
    if not is_moment(moment):
        raise InvalidMoment(moment)
    if moment not in held:
        return None
    return tuple(holding_machines(plan, fleet, kind, number, moment, 0)), ()


def jump_run(plan, fleet, kind, early, late):
    """A run in which a service of a kind reads an edition behind an early one, or None."""
    pairs = jumps(plan, fleet, kind)
    # These raise if there are no such editions.
    plan.moment_of(early)
    moment = plan.moment_of(late)
    if (early, late) not in pairs:
        return None
    source = fleet[kind].source
    machines = source_machines(plan, fleet, source, late, moment, 0)
    pull = (moment, source_number(source, machines, 0))
    # The last moment ahead of the pull is within a gap of it, so that it fits.
    holders = holding_machines(plan, fleet, kind, early, moment - 1, len(machines))
    name, begun, origin, _ = holders.pop()
    return (*machines, *holders, (name, begun, origin, (pull,))), ()
