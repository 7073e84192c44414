"""Machines that show by a run what a kind can hold.

The parts are returned as lists of machines, of which the last one is the
one in question, numbered from some number on, so that they can be put
behind others. Nothing is checked here: what is asked for must be possible.
"""

from gaplesskeys.timing import held_span


def _last_reading(plan, fleet, source, number, moment):
    """The last moment, not after a moment, at which an edition is read from a source."""
    # The publisher tells an edition as long as a kind of the lateness 1 holds it.
    lateness = 1 if source is None else fleet.lateness(source)
    last = held_span(plan.moments(), number, lateness).last
    return moment if last is None or moment < last else last


def source_machines(plan, fleet, source, number, moment, start):
    """Machines of which the last one can be read for an edition, none for the publisher."""
    if source is None:
        return []
    return holding_machines(plan, fleet, source, number, moment, start)


def source_number(source, machines, start):
    """How the last one of the machines is told that a machine reads."""
    return None if source is None else start + len(machines) - 1


def holding_machines(plan, fleet, name, number, moment, start):
    """Machines of which the last one is of a kind and holds an edition at a moment."""
    kind = fleet[name]
    read = _last_reading(plan, fleet, kind.source, number, moment)
    machines = source_machines(plan, fleet, kind.source, number, read, start)
    machines.append((name, read, source_number(kind.source, machines, start), ()))
    copied = read + kind.gap - 1
    if moment > copied:
        # The machine is too old by then, but not what begins from its last copy.
        begun = moment if moment < copied + kind.age else copied + kind.age
        machines.append((name, begun, (start + len(machines) - 1, copied), ()))
    return machines
