"""Checks of what is to be the contents of editions, or to be published behind one."""

from gaplesskeys.checks import check_roles, is_moment
from gaplesskeys.contents import Contents
from gaplesskeys.errors import InvalidContents, InvalidMoment
from gaplesskeys.plans import MOST_EDITIONS


def have_roles(value, roles):
    """Whether a value is contents with these roles."""
    return isinstance(value, Contents) and value.roles == roles


def are_alike(values):
    """Whether the values of a list are contents with the same roles."""
    if not values or not isinstance(values[0], Contents):
        return False
    return all([have_roles(value, values[0].roles) for value in values])


def check_list(contents):
    """Raises InvalidContents if a value is not a list of contents that a plan can have."""
    if not isinstance(contents, list) or len(contents) > MOST_EDITIONS or not are_alike(contents):
        raise InvalidContents(None)


def check_contents(contents, fleet):
    """Raises an error if a value is no such list, or lacks the role of a call."""
    check_list(contents)
    check_roles(contents[0], fleet)


def contents_in(plan):
    """The contents of all editions of a plan."""
    return [plan.contents_of(number) for number in range(len(plan))]


def check_later(plan, number, moment):
    """Raises InvalidMoment if a value is not a moment after that of an edition."""
    if not is_moment(moment) or moment <= plan.moment_of(number):
        raise InvalidMoment(moment)
