"""Whether editions can be taken back, and by which faults they cannot."""

from gaplesskeys.checks import check_roles
from gaplesskeys.editions import check_later, contents_in, have_roles
from gaplesskeys.errors import InvalidContents, UnknownEdition
from gaplesskeys.faults import locked_out, newest_jumps, newest_meetings, refused, told_faults


def _check_undone(plan, number):
    """Raises an error if an edition is not there, or has none ahead of it."""
    plan.moment_of(number)
    if number == 0:
        raise UnknownEdition(0)


def _found_faults(plan, fleet, number, contents, moment):
    """The renewed faults, sorted, also at a moment that cannot be given."""
    moments = [*plan.moments()[:number + 1], moment]
    everything = [*contents_in(plan)[:number + 1], contents]
    call_faults = refused(fleet, everything, newest_meetings(fleet, moments))
    jump_faults = locked_out(everything, newest_jumps(fleet, moments))
    return told_faults(call_faults, jump_faults)


def renewed_faults(plan, fleet, number, contents, moment):
    """The faults with contents that are published behind an edition at a moment, sorted."""
    check_roles(plan.contents_of(0), fleet)
    # This raises if there is no such edition.
    roles = plan.contents_of(number).roles
    if not have_roles(contents, roles):
        raise InvalidContents(None)
    check_later(plan, number, moment)
    return _found_faults(plan, fleet, number, contents, moment)


def undo_faults(plan, fleet, number):
    """The faults if an edition is taken back as soon as possible, sorted."""
    check_roles(plan.contents_of(0), fleet)
    _check_undone(plan, number)
    return _found_faults(plan, fleet, number, plan.contents_of(number - 1), plan.moment_of(number) + 1)


def first_stuck(plan, fleet):
    """The number of the first edition that cannot be taken back, or None."""
    check_roles(plan.contents_of(0), fleet)
    for number in range(1, len(plan)):
        if undo_faults(plan, fleet, number):
            return number
    return None


def is_undoable(plan, fleet):
    """Whether each edition but the first can be taken back."""
    return first_stuck(plan, fleet) is None


def undone(plan, number, moment):
    """The plan in which an edition is taken back at a moment."""
    _check_undone(plan, number)
    check_later(plan, number, moment)
    made = plan.cut(number)
    # This raises if there would be too many editions.
    made.add(moment, plan.contents_of(number - 1))
    return made
