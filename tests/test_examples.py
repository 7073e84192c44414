"""The examples of the document for plans, fleets, machines, holding, calls, tables and days, word by word."""

import unittest

EXAMPLES = r"""
>>> from gaplesskeys.contents import Contents
>>> from gaplesskeys.plans import Plan
>>> one = Contents({'app': (['a'], 'a')}, ['v'])
>>> plan = Plan([(0, one), (4, one)])
>>> [plan.add(9, one), plan.moments(), plan.current(8), len(plan.cut(1))]
[2, [0, 4, 9], 1, 2]

>>> from gaplesskeys.contents import Contents
>>> from gaplesskeys.plans import Plan
>>> one = Contents({'app': (['a'], 'a')}, ['v'])
>>> Plan([(3, one), (3, one)])
raises InvalidPlan(1)

>>> from gaplesskeys.texts import parse_fleet
>>> fleet = parse_fleet("kind a gap 2 age 0 from c\nkind b gap 1 age - from a\nkind c gap 3 age - from -")
>>> [fleet.chain('b'), fleet.lateness('c'), fleet.lateness('a'), fleet.lateness('b')]
[['c', 'a', 'b'], 3, 5, 5]

>>> from gaplesskeys.fleets import Kind
>>> kind = Kind(gap=3)
>>> [kind.change('age', 0), kind.gap, kind.age, kind.source]
[None, 3, 0, None]

>>> from gaplesskeys.texts import parse_fleet, parse_plan
>>> from gaplesskeys.machines import World
>>> plan = parse_plan("2 app a a | - 0 -\n5 app a a | - 0 -")
>>> fleet = parse_fleet("kind k gap 3 age - from -")
>>> world = World(plan, fleet, ((("k", 4, None, ((6, None),)),), ()))
>>> [world.held(0, 5), world.held(0, 6), world.held(0, 8), world.held(0, 9), world.lockout(0)]
[0, 1, 1, None, None]

>>> from gaplesskeys.texts import parse_fleet, parse_plan
>>> from gaplesskeys.machines import World
>>> plan = parse_plan("2 app a a | - 0 -\n5 app a a | - 0 -")
>>> fleet = parse_fleet("kind k gap 3 age - from -")
>>> World(plan, fleet, ((("k", 2, None, ()), ("k", 4, None, ((8, None),))), ()))
raises InvalidRun(1)

>>> from gaplesskeys.texts import parse_fleet, parse_plan
>>> from gaplesskeys.holding import held_range, jumps, lockouts
>>> plan = parse_plan("0 app a a | v 1 v\n1 app a a | w 1 v\n3 app a a | w 1 w")
>>> fleet = parse_fleet("kind k gap 3 age - from -")
>>> [str(held_range(plan, fleet, 'k', 0)), jumps(plan, fleet, 'k'), lockouts(plan, fleet)]
['0 2', [(0, 1), (0, 2), (1, 2)], [('k', 0, 2)]]

>>> from gaplesskeys.texts import parse_fleet, parse_plan
>>> from gaplesskeys.calls import is_faultless, meetings, refusals
>>> plan = parse_plan("0 app a a | v 1 v\n5 app b b | v 1 v")
>>> fleet = parse_fleet("kind k gap 3 age - from -\ncall app k k life 2")
>>> [meetings(plan, fleet, 0), list(refusals(plan, fleet)), is_faultless(plan, fleet)]
[[(0, 0), (0, 1), (1, 0), (1, 1)], [(0, 0, 1), (0, 1, 0)], False]

>>> from gaplesskeys.texts import parse_fleet, parse_plan
>>> from gaplesskeys.tables import find_table
>>> plan = parse_plan("0 app a a | v 1 v\n1 app a,b a | v 1 v\n3 app a,b b | v 1 v\n7 app b b | v 1 v")
>>> fleet = parse_fleet("kind k gap 3 age - from -\ncall app k k life 2")
>>> sorted(find_table(plan, fleet).items())
[(('call', 0, 0, 3), (4, 7)), (('call', 0, 1, 3), (6, 7)), (('call', 0, 2, 0), (2, 3)), (('call', 0, 3, 0), (2, 7))]

>>> from gaplesskeys.texts import parse_fleet, parse_plan
>>> from gaplesskeys.days import late, outlived
>>> plan = parse_plan("0 app a a | v 1 v\n1 app a,b a | v 1 v\n3 app a,b b | v 1 v\n7 app b b | v 1 v")
>>> fleet = parse_fleet("kind k gap 3 age - from -\ncall app k k life 2")
>>> [late(plan, fleet, {('app', 'a'): 8}), late(plan, fleet, {('app', 'a'): 9}), outlived(plan, fleet, {('app', 'a'): 7})]
[[('app', 'a', 'k', 2)], [], [('app', 'a')]]

>>> from gaplesskeys.texts import parse_fleet, parse_plan
>>> parse_plan("0 app a a | v 1 v\n0 app a a | v 1 v")
raises ParseError(1)

>>> from gaplesskeys.texts import parse_fleet
>>> parse_fleet("kind a gap 1 age - from b")
raises ParseError(-1)
"""


def outcome(rows):
    """What the last row of an example gives, or the error that it raises."""
    names = {}
    for row in rows[:-1]:
        exec(row, names)
    try:
        return repr(eval(rows[-1], names))
    except Exception as error:
        (value,) = vars(error).values()
        return f"raises {type(error).__name__}({value!r})"


class Examples(unittest.TestCase):
    def test_each_one(self):
        examples = EXAMPLES.strip().split("\n\n")
        self.assertEqual(len(examples), 12)
        for example in examples:
            *rows, expected = example.split("\n")
            self.assertTrue(all(row.startswith(">>> ") for row in rows))
            self.assertEqual(outcome([row[4:] for row in rows]), expected, example)
