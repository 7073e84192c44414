"""Promise [2]: results depend neither on the order of dict keys nor on that of lists of keys."""

import unittest

from gaplesskeys.calls import is_faultless, meeting_run, meetings, refusals
from gaplesskeys.contents import Contents
from gaplesskeys.days import accepted_ranges, late, late_run, outlived
from gaplesskeys.fleets import Fleet, Kind
from gaplesskeys.holding import held_by, held_range, held_run, jump_run, jumps, lockouts
from gaplesskeys.plans import Plan
from gaplesskeys.tables import find_table, is_table
from gaplesskeys.texts import format_fleet, format_plan

USES = [
    {"app": ("ab", "a"), "web": ("c", "c")}, {"app": ("cab", "b"), "web": ("cd", "c")},
    {"app": ("bca", "c"), "web": ("dc", "d")}, {"app": ("cb", "c"), "web": ("d", "d")},
]
# The first contents do not take the last ones.
SIGNING = [("vw", 1, "vw"), ("wx", 1, "w"), ("xv", 1, "xw"), ("x", 1, "x")]
KINDS = {"k": (3, None, None), "c": (2, 1, None), "b": (4, None, None), "m": (1, 0, None)}
CALLS = [("web", "k", "c", 2), ("app", "c", "b", 0), ("app", "b", "c", 3), ("web", "m", "k", 1)]
DAYS = {("web", "d"): 20, ("app", "a"): 9, ("app", "c"): 3, ("web", "c"): 12}


def turned(table, turn):
    return {key: table[key] for key in sorted(table, reverse=turn)}


def made_plan(moments, turn):
    editions = []
    for moment, uses, (vouchers, needed, signers) in zip(moments, USES, SIGNING):
        roles = {role: (sorted(keys, reverse=turn), used) for role, (keys, used) in turned(uses, turn).items()}
        editions.append((moment, Contents(
            roles, sorted(vouchers, reverse=turn), needed=needed, signers=sorted(signers, reverse=turn),
        )))
    return Plan(editions)


def made_fleet(turn):
    fleet = Fleet()
    for name, (gap, age, source) in turned(KINDS, turn).items():
        fleet[name] = Kind(gap=gap, age=age, source=source)
    # The kind m reads k, which stands in the fleet in any order by now.
    fleet["m"] = Kind(gap=1, age=0, source="k")
    for role, client, server, life in CALLS:
        fleet.add_call(role, client, server, life=life)
    return fleet


def results(moments, turn):
    """What all functions return."""
    plan, fleet, days = made_plan(moments, turn), made_fleet(turn), turned(DAYS, turn)
    found = [format_plan(plan), format_fleet(fleet), lockouts(plan, fleet), list(refusals(plan, fleet))]
    found += [is_faultless(plan, fleet), late(plan, fleet, days), outlived(plan, fleet, days)]
    table = find_table(plan, fleet)
    found += [table, is_table(plan, fleet, turned(table, turn) if table else {})]
    found += [late_run(plan, fleet, days, row) for row in late(plan, fleet, days)]
    found += [str(span) for role, key in DAYS for span in accepted_ranges(plan, fleet, role, key)]
    pairs = [(one, two) for one in range(4) for two in range(4)]
    for kind in fleet.names():
        found += [jumps(plan, fleet, kind), [str(held_range(plan, fleet, kind, number)) for number in range(4)]]
        found += [held_by(plan, fleet, kind, moment) for moment in range(40)]
        found += [held_run(plan, fleet, kind, number, 7) for number in range(4)]
        found += [jump_run(plan, fleet, kind, *pair) for pair in pairs]
    for call in range(len(CALLS)):
        found += [meetings(plan, fleet, call), [meeting_run(plan, fleet, call, *pair) for pair in pairs]]
    return found


class Orders(unittest.TestCase):
    def test_the_same_results(self):
        for moments in [(0, 1, 2, 3), (0, 1, 3, 7), (2, 9, 17, 30), (0, 100, 200, 300)]:
            self.assertEqual(results(moments, False), results(moments, True))

    def test_there_is_something_to_order(self):
        self.assertEqual(len(lockouts(made_plan((0, 1, 2, 3), True), made_fleet(True))), 4)
        self.assertEqual(len(list(refusals(made_plan((0, 1, 3, 7), True), made_fleet(True)))), 3)
        self.assertEqual(len(find_table(made_plan((2, 9, 17, 30), True), made_fleet(True))), 18)

    def test_equal_plans_and_fleets(self):
        self.assertEqual(made_plan((0, 1, 3, 7), False), made_plan((0, 1, 3, 7), True))
        self.assertEqual(made_fleet(False), made_fleet(True))
