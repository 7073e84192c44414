"""Promise [2]: results depend neither on the order of dict keys nor on that of lists of keys."""

import unittest

from gaplesskeys.calls import is_faultless, meeting_run, meetings, refusals
from gaplesskeys.contents import Contents
from gaplesskeys.days import accepted_ranges, late, late_run, outlived
from gaplesskeys.earliest import earliest, find_ring, latest, rules
from gaplesskeys.fewest import fewest, labels
from gaplesskeys.fleets import Fleet, Kind
from gaplesskeys.holding import held_by, held_range, held_run, jump_run, jumps, lockouts
from gaplesskeys.journal import Journal
from gaplesskeys.live import Publisher
from gaplesskeys.losses import core, emergency, exposure, fewest_spares, forgeable, harms, unready, with_spares
from gaplesskeys.plans import Plan
from gaplesskeys.tables import find_table, is_table
from gaplesskeys.texts import format_contents, format_fleet, format_plan
from gaplesskeys.undoing import first_stuck, renewed_faults, undo_faults
from tests.helper import raised

USES = [
    {"app": ("ab", "a"), "web": ("c", "c")}, {"app": ("cab", "b"), "web": ("cd", "c")},
    {"app": ("bca", "c"), "web": ("dc", "d")}, {"app": ("cb", "c"), "web": ("d", "d")},
]
# The first contents do not take the last ones.
SIGNING = [("vw", 1, "vw"), ("wx", 1, "w"), ("xv", 1, "xw"), ("x", 1, "x")]
KINDS = {"k": (3, None, None), "c": (2, 1, None), "b": (4, None, None), "m": (1, 0, None)}
CALLS = [("web", "k", "c", 2), ("app", "c", "b", 0), ("app", "b", "c", 3), ("web", "m", "k", 1)]
DAYS = {("web", "d"): 20, ("app", "a"): 9, ("app", "c"): 3, ("web", "c"): 12}


def turned(table, turn):
    return {key: table[key] for key in sorted(table, reverse=turn)}


def made_plan(moments, turn):
    editions = []
    for moment, uses, (vouchers, needed, signers) in zip(moments, USES, SIGNING):
        roles = {role: (sorted(keys, reverse=turn), used) for role, (keys, used) in turned(uses, turn).items()}
        editions.append((moment, Contents(
            roles, sorted(vouchers, reverse=turn), needed=needed, signers=sorted(signers, reverse=turn),
        )))
    return Plan(editions)


def made_fleet(turn):
    fleet = Fleet()
    for name, (gap, age, source) in turned(KINDS, turn).items():
        fleet[name] = Kind(gap=gap, age=age, source=source)
    # The kind m reads k, which stands in the fleet in any order by now.
    fleet["m"] = Kind(gap=1, age=0, source="k")
    for role, client, server, life in CALLS:
        fleet.add_call(role, client, server, life=life)
    return fleet


def results(moments, turn):
    """What all functions return."""
    plan, fleet, days = made_plan(moments, turn), made_fleet(turn), turned(DAYS, turn)
    found = [format_plan(plan), format_fleet(fleet), lockouts(plan, fleet), list(refusals(plan, fleet))]
    found += [is_faultless(plan, fleet), late(plan, fleet, days), outlived(plan, fleet, days)]
    table = find_table(plan, fleet)
    found += [table, is_table(plan, fleet, turned(table, turn) if table else {})]
    found += [late_run(plan, fleet, days, row) for row in late(plan, fleet, days)]
    found += [str(span) for role, key in DAYS for span in accepted_ranges(plan, fleet, role, key)]
    pairs = [(one, two) for one in range(4) for two in range(4)]
    for kind in fleet.names():
        found += [jumps(plan, fleet, kind), [str(held_range(plan, fleet, kind, number)) for number in range(4)]]
        found += [held_by(plan, fleet, kind, moment) for moment in range(40)]
        found += [held_run(plan, fleet, kind, number, 7) for number in range(4)]
        found += [jump_run(plan, fleet, kind, *pair) for pair in pairs]
    for call in range(len(CALLS)):
        found += [meetings(plan, fleet, call), [meeting_run(plan, fleet, call, *pair) for pair in pairs]]
    return found


def shown(value):
    """A value of which contents stand in their texts, and the error in the place of a result."""
    if isinstance(value, Contents):
        return format_contents(value)
    if isinstance(value, Exception):
        return type(value), list(vars(value).values())
    return [shown(item) for item in value] if isinstance(value, list) else value


def outcome(call, *args, **named):
    error = raised(call, *args, **named)
    return shown(call(*args, **named) if error is None else error)


def later_results(moments, turn):
    """What the functions return that ask for moments, changes and losses."""
    plan, fleet = made_plan(moments, turn), made_fleet(turn)
    items = [plan.contents_of(number) for number in range(4)]
    found = [first_stuck(plan, fleet), unready(plan, fleet, 2), forgeable(plan, 1)]
    spares = fewest_spares(plan, fleet, 2)
    found += [spares, list(spares), format_plan(with_spares(plan, "web", sorted("yz", reverse=turn)))]
    for named in [{}, {"days": turned(DAYS, turn)}, {"lives": turned(DAYS, turn)}]:
        for many in [2, 4]:
            found += [call(items[:many], fleet, **named) for call in [rules, earliest, latest, find_ring]]
    for number in range(4):
        found += [core(plan, fleet, number, role) for role in ["app", "web"]]
        found += [renewed_faults(plan, fleet, number, items[0], moments[number] + 1), outcome(undo_faults, plan, fleet, number)]
        for lost in ["ab", "bcd", "cvx", ""]:
            keys = sorted(lost, reverse=turn)
            found.append(outcome(emergency, plan, fleet, number, keys))
            for moment in [moments[number] + 1, 400]:
                found += [outcome(harms, plan, fleet, number, keys, moment), exposure(plan, fleet, number, keys, moment)]
    for undoable in [False, True]:
        found += [shown(call(items[0], items[2], items, fleet, undoable=undoable)) for call in [fewest, labels]]
    # What was given has not changed.
    return [*found, plan == made_plan(moments, turn), fleet == made_fleet(turn)]


def live_results(turn):
    """What a publisher and a journal tell."""
    plan, fleet = made_plan((2, 9, 17, 30), turn), made_fleet(turn)
    services = turned({"s": "k", "t": "c", "u": "b", "r": "c"}, turn)
    live, book, found = Publisher.resumed(fleet, services, plan.cut(2), 25), Journal(), []
    for name, moment in sorted([("s", 18), ("s", 20), ("t", 17), ("u", 19), ("r", 22), ("r", 3)], reverse=turn):
        live.report(name, moment)
    for name in "rstu":
        found += [live.reports(name), *[live.last_held(name, number) for number in range(3)]]
    for number in range(4):
        found.append(live.earliest(plan.contents_of(number)))
        book.begin(40 * number, plan.contents_of(number))
        book.done(40 * number)
    return [*found, book.text]


class Orders(unittest.TestCase):
    def test_the_same_results(self):
        for moments in [(0, 1, 2, 3), (0, 1, 3, 7), (2, 9, 17, 30), (0, 100, 200, 300)]:
            self.assertEqual(results(moments, False), results(moments, True))
            found = later_results(moments, True)
            self.assertEqual(later_results(moments, False), found)
            self.assertEqual(found[-2:], [True, True])
        self.assertEqual(live_results(False), live_results(True))

    def test_there_is_something_to_order(self):
        self.assertEqual(len(lockouts(made_plan((0, 1, 2, 3), True), made_fleet(True))), 4)
        self.assertEqual(len(list(refusals(made_plan((0, 1, 3, 7), True), made_fleet(True)))), 3)
        self.assertEqual(len(find_table(made_plan((2, 9, 17, 30), True), made_fleet(True))), 18)

    def test_equal_plans_and_fleets(self):
        self.assertEqual(made_plan((0, 1, 3, 7), False), made_plan((0, 1, 3, 7), True))
        self.assertEqual(made_fleet(False), made_fleet(True))
