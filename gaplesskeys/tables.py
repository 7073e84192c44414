"""Tables of inequalities, which show that a plan has no faults."""

from gaplesskeys.checks import check_roles, is_integer
from gaplesskeys.timing import held_span, last_jump, shown_span


def _call_end(moments, fleet, call, made_in, shown_to):
    """The last moment of the range of the earlier one of a client's and a server's edition."""
    _, client, server, life = call
    if made_in < shown_to:
        return shown_span(moments, made_in, fleet.lateness(client), life).last
    return held_span(moments, shown_to, fleet.lateness(server)).last


def _call_rows(plan, fleet):
    """The rows (key, end, begin) of all calls, where end is None for one and the same edition."""
    moments = plan.moments()
    numbers = range(len(plan))
    rows = []
    for number, call in enumerate(fleet.calls()):
        for made_in in numbers:
            used = plan.contents_of(made_in).used(call[0])
            for shown_to in numbers:
                if used in plan.contents_of(shown_to).accepted(call[0]):
                    continue
                end = None if made_in == shown_to else _call_end(moments, fleet, call, made_in, shown_to)
                begin = moments[made_in] if shown_to < made_in else moments[shown_to]
                rows.append((("call", number, made_in, shown_to), end, begin))
    return rows


def _jump_rows(plan, fleet):
    """The rows (key, end, begin) of all kinds."""
    moments = plan.moments()
    rows = []
    for kind in fleet.names():
        lateness = fleet.lateness(kind)
        for late in range(len(plan)):
            for early in range(late):
                if not plan.contents_of(early).takes(plan.contents_of(late)):
                    end = last_jump(moments, early, lateness)
                    rows.append((("jump", kind, early, late), end, moments[late]))
    return rows


def find_table(plan, fleet):
    """The table for a plan, or None if there is none."""
    check_roles(plan.contents_of(0), fleet)
    table = {}
    for key, end, begin in _call_rows(plan, fleet) + _jump_rows(plan, fleet):
        if end is None or end >= begin:
            return None
        table[key] = (end, begin)
    return table


def _is_plain(value):
    """Whether a value is a tuple of strings and integers, none of which is True or False."""
    return isinstance(value, tuple) and all([isinstance(item, str) or is_integer(item) for item in value])


def is_table(plan, fleet, candidate):
    """Whether a value is the table for a plan."""
    table = find_table(plan, fleet)
    if table is None or not isinstance(candidate, dict) or len(candidate) != len(table):
        return False
    for key in candidate:
        if not _is_plain(key) or key not in table:
            return False
        # True equals 1, so that it is not enough that they are equal.
        if not _is_plain(candidate[key]) or candidate[key] != table[key]:
            return False
    return True
