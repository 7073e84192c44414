"""The examples of the document, word by word, and those of README.md."""

import builtins
import doctest
import pathlib
import unittest

README = pathlib.Path(__file__).resolve().parent.parent / "README.md"
EXAMPLES = r"""
>>> from gaplesskeys.ranges import Range
>>> str(Range(3, 9) & (Range(0, 4) + 2))
'3 6'

>>> from gaplesskeys.ranges import Range
>>> whole = Range(3, 5).joined(Range(6, None))
>>> [5 in whole, Range(4, 6) in whole, whole.is_endless, Range(5, 4) == Range.empty()]
[True, True, True, True]

>>> from gaplesskeys.contents import Contents
>>> one = Contents({'app': (['b', 'a'], 'a')}, ['v', 'w'], signers=['v'])
>>> two = one.changed('app', used='b').revouched(signers=['w'])
>>> [one.accepted('app'), two.used('app'), one.takes(two), two.without(['w']).signers, one.all_keys()]
[['a', 'b'], 'b', True, [], ['a', 'b', 'v', 'w']]

>>> from gaplesskeys.contents import Contents
>>> Contents({'app': ([], 'A')}, [])
raises InvalidContents('roles')

>>> from gaplesskeys.contents import Contents
>>> from gaplesskeys.plans import Plan
>>> one = Contents({'app': (['a'], 'a')}, ['v'])
>>> plan = Plan([(0, one), (4, one)])
>>> [plan.add(9, one), plan.moments(), plan.current(8), len(plan.cut(1))]
[2, [0, 4, 9], 1, 2]

>>> from gaplesskeys.contents import Contents
>>> from gaplesskeys.plans import Plan
>>> one = Contents({'app': (['a'], 'a')}, ['v'])
>>> Plan([(3, one), (3, one)])
raises InvalidPlan(1)

>>> from gaplesskeys.texts import parse_fleet
>>> fleet = parse_fleet("kind a gap 2 age 0 from c\nkind b gap 1 age - from a\nkind c gap 3 age - from -")
>>> [fleet.chain('b'), fleet.lateness('c'), fleet.lateness('a'), fleet.lateness('b')]
[['c', 'a', 'b'], 3, 5, 5]

>>> from gaplesskeys.fleets import Kind
>>> kind = Kind(gap=3)
>>> [kind.change('age', 0), kind.gap, kind.age, kind.source]
[None, 3, 0, None]

>>> from gaplesskeys.texts import parse_fleet, parse_plan
>>> from gaplesskeys.machines import World
>>> plan = parse_plan("2 app a a | - 0 -\n5 app a a | - 0 -")
>>> fleet = parse_fleet("kind k gap 3 age - from -")
>>> world = World(plan, fleet, ((("k", 4, None, ((6, None),)),), ()))
>>> [world.held(0, 5), world.held(0, 6), world.held(0, 8), world.held(0, 9), world.lockout(0)]
[0, 1, 1, None, None]

>>> from gaplesskeys.texts import parse_fleet, parse_plan
>>> from gaplesskeys.machines import World
>>> plan = parse_plan("2 app a a | - 0 -\n5 app a a | - 0 -")
>>> fleet = parse_fleet("kind k gap 3 age - from -")
>>> World(plan, fleet, ((("k", 2, None, ()), ("k", 4, None, ((8, None),))), ()))
raises InvalidRun(1)

>>> from gaplesskeys.texts import parse_fleet, parse_plan
>>> from gaplesskeys.holding import held_range, jumps, lockouts
>>> plan = parse_plan("0 app a a | v 1 v\n1 app a a | w 1 v\n3 app a a | w 1 w")
>>> fleet = parse_fleet("kind k gap 3 age - from -")
>>> [str(held_range(plan, fleet, 'k', 0)), jumps(plan, fleet, 'k'), lockouts(plan, fleet)]
['0 2', [(0, 1), (0, 2), (1, 2)], [('k', 0, 2)]]

>>> from gaplesskeys.texts import parse_fleet, parse_plan
>>> from gaplesskeys.calls import is_faultless, meetings, refusals
>>> plan = parse_plan("0 app a a | v 1 v\n5 app b b | v 1 v")
>>> fleet = parse_fleet("kind k gap 3 age - from -\ncall app k k life 2")
>>> [meetings(plan, fleet, 0), list(refusals(plan, fleet)), is_faultless(plan, fleet)]
[[(0, 0), (0, 1), (1, 0), (1, 1)], [(0, 0, 1), (0, 1, 0)], False]

>>> from gaplesskeys.texts import parse_fleet, parse_plan
>>> from gaplesskeys.tables import find_table
>>> plan = parse_plan("0 app a a | v 1 v\n1 app a,b a | v 1 v\n3 app a,b b | v 1 v\n7 app b b | v 1 v")
>>> fleet = parse_fleet("kind k gap 3 age - from -\ncall app k k life 2")
>>> sorted(find_table(plan, fleet).items())
[(('call', 0, 0, 3), (4, 7)), (('call', 0, 1, 3), (6, 7)), (('call', 0, 2, 0), (2, 3)), (('call', 0, 3, 0), (2, 7))]

>>> from gaplesskeys.texts import parse_fleet, parse_plan
>>> from gaplesskeys.days import late, outlived
>>> plan = parse_plan("0 app a a | v 1 v\n1 app a,b a | v 1 v\n3 app a,b b | v 1 v\n7 app b b | v 1 v")
>>> fleet = parse_fleet("kind k gap 3 age - from -\ncall app k k life 2")
>>> [late(plan, fleet, {('app', 'a'): 8}), late(plan, fleet, {('app', 'a'): 9}), outlived(plan, fleet, {('app', 'a'): 7})]
[[('app', 'a', 'k', 2)], [], [('app', 'a')]]

>>> from gaplesskeys.texts import parse_fleet, parse_plan
>>> from gaplesskeys.earliest import earliest, latest
>>> plan = parse_plan("0 app a a | v 1 v\n1 app a,b a | v 1 v\n3 app a,b b | v 1 v\n7 app b b | v 1 v")
>>> fleet = parse_fleet("kind k gap 3 age - from -\ncall app k k life 2")
>>> c0, c1 = plan.contents_of(0), plan.contents_of(1)
>>> c2, c3 = plan.contents_of(2), plan.contents_of(3)
>>> [earliest([c0, c1, c2, c3], fleet), latest([c0, c1, c2, c3], fleet, days={('app', 'a'): 12})]
[[0, 1, 3, 7], [0, 4, 6, 10]]

>>> from gaplesskeys.texts import parse_fleet, parse_plan
>>> from gaplesskeys.earliest import earliest, find_ring
>>> plan = parse_plan("0 app a a | v 1 v\n5 app b b | v 1 v")
>>> fleet = parse_fleet("kind k gap 3 age - from -\ncall app k k life 2")
>>> c0, c1 = plan.contents_of(0), plan.contents_of(1)
>>> [earliest([c0, c1], fleet), find_ring([c0, c1], fleet)]
[None, [(1, 1, 4)]]

>>> from gaplesskeys.texts import parse_fleet, parse_plan
>>> from gaplesskeys.undoing import is_undoable, undo_faults
>>> plan = parse_plan("0 app a a | v 1 v\n1 app a,b a | v 1 v\n3 app a,b b | v 1 v\n7 app b b | v 1 v")
>>> fleet = parse_fleet("kind k gap 3 age - from -\ncall app k k life 2")
>>> other = parse_plan("0 app a a | v 1 v\n5 app b b | v 1 v")
>>> [is_undoable(plan, fleet), undo_faults(other, fleet, 1)]
[True, [('call', 0, 1, 2), ('call', 0, 2, 1)]]

>>> from gaplesskeys.texts import parse_fleet, parse_plan
>>> from gaplesskeys.texts import format_contents
>>> from gaplesskeys.losses import core, emergency, fewest_spares, unready
>>> plan = parse_plan("0 app a a | v 1 v\n1 app a,b a | v 1 v\n3 app a,b b | v 1 v\n7 app b b | v 1 v")
>>> fleet = parse_fleet("kind k gap 3 age - from -\ncall app k k life 2")
>>> [core(plan, fleet, 2, 'app'), format_contents(emergency(plan, fleet, 2, ['b'])), unready(plan, fleet, 1), fewest_spares(plan, fleet, 1)]
[['a', 'b'], 'app a a | v 1 v', (0, ['a']), {'app': 1}]

>>> from gaplesskeys.texts import parse_fleet, parse_plan
>>> from gaplesskeys.losses import emergency, exposure, forgeable
>>> plan = parse_plan("0 app a a | v 1 v\n1 app a,b a | v 1 v\n3 app a,b b | v 1 v\n7 app b b | v 1 v")
>>> fleet = parse_fleet("kind k gap 3 age - from -\ncall app k k life 2")
>>> [exposure(plan, fleet, 2, ['a'], 4), exposure(plan, fleet, 2, ['z'], 4), forgeable(plan, 1)]
[5, None, [0, 1, 2, 3]]

>>> from gaplesskeys.texts import parse_fleet, parse_plan
>>> from gaplesskeys.losses import emergency
>>> plan = parse_plan("0 app a a | v 1 v\n1 app a,b a | v 1 v\n3 app a,b b | v 1 v\n7 app b b | v 1 v")
>>> fleet = parse_fleet("kind k gap 3 age - from -\ncall app k k life 2")
>>> emergency(plan, fleet, 1, ['a'])
raises NoKeyLeft('app')

>>> from gaplesskeys.texts import parse_fleet, parse_plan
>>> from gaplesskeys.fewest import fewest, get_along, labels
>>> plan = parse_plan("0 app a a | v 1 v\n1 app a,b a | v 1 v\n3 app a,b b | v 1 v\n7 app b b | v 1 v")
>>> fleet = parse_fleet("kind k gap 3 age - from -\ncall app k k life 2")
>>> c0, c1 = plan.contents_of(0), plan.contents_of(1)
>>> c2, c3 = plan.contents_of(2), plan.contents_of(3)
>>> [get_along(c0, c3, fleet), labels(c0, c3, [c2, c1], fleet), fewest(c0, c3, [c2, c1], fleet) == [c0, c1, c2, c3]]
[False, [0, 2, 1, 3], True]

>>> from gaplesskeys.texts import parse_fleet, parse_plan
>>> from gaplesskeys.live import Publisher
>>> plan = parse_plan("0 app a a | v 1 v\n1 app a,b a | v 1 v\n3 app a,b b | v 1 v\n7 app b b | v 1 v")
>>> fleet = parse_fleet("kind k gap 3 age 1 from -\ncall app k k life 0")
>>> c0, c1 = plan.contents_of(0), plan.contents_of(1)
>>> c2, c3 = plan.contents_of(2), plan.contents_of(3)
>>> live = Publisher(fleet, {'s': 'k', 't': 'k'}, c0, 0)
>>> live.wait(5)
>>> live.publish(c1)
>>> live.wait(8)
>>> live.report('s', 6)
>>> early = live.earliest(c2)
>>> live.report('t', 7)
>>> [live.last_held('s', 0), live.last_held('t', 0), early, live.earliest(c2)]
[5, 6, 10, 8]

>>> from gaplesskeys.texts import parse_fleet, parse_plan
>>> from gaplesskeys.live import Publisher
>>> plan = parse_plan("0 app a a | v 1 v\n1 app a,b a | v 1 v\n3 app a,b b | v 1 v\n7 app b b | v 1 v")
>>> fleet = parse_fleet("kind k gap 3 age 1 from -\ncall app k k life 0")
>>> c0, c1 = plan.contents_of(0), plan.contents_of(1)
>>> c2, c3 = plan.contents_of(2), plan.contents_of(3)
>>> live = Publisher(fleet, {'s': 'k', 't': 'k'}, c0, 0)
>>> live.wait(5)
>>> live.publish(c1)
>>> live.wait(8)
>>> live.publish(c2)
raises TooSoon(10)

>>> from gaplesskeys.texts import parse_fleet, parse_plan
>>> from gaplesskeys.journal import Journal
>>> plan = parse_plan("0 app a a | v 1 v\n1 app a,b a | v 1 v\n3 app a,b b | v 1 v\n7 app b b | v 1 v")
>>> book = Journal()
>>> book.begin(3, plan.contents_of(0))
>>> book.done(4)
>>> book.begin(6, plan.contents_of(1))
>>> again = Journal.recovered(book.text + 'done 1')
>>> [again.text == book.text, again.pending, again.plan().moments(), book.text.split("\n")[0]]
[True, 1, [4], 'begin 0 3 app a a | v 1 v']

>>> from gaplesskeys.texts import parse_fleet, parse_plan
>>> parse_plan("0 app a a | v 1 v\n0 app a a | v 1 v")
raises ParseError(1)

>>> from gaplesskeys.texts import parse_fleet
>>> parse_fleet("kind a gap 1 age - from b")
raises ParseError(-1)

>>> from gaplesskeys.console import Console
>>> desk = Console()
>>> desk.run("kind k gap 3 age - from -")
>>> desk.run("call app k k life 2")
>>> desk.run("edition 0 app a a | v 1 v")
>>> desk.run("edition 5 app b b | v 1 v")
>>> [desk.run('faults'), desk.run('held k 0'), desk.run('undoable'), desk.run('ready 1'), desk.run('earliest 0')]
['call 0 0 1;call 0 1 0', '0 6', '1', '0 a', 'none']
"""


def outcome(rows):
    """What the last row of an example gives, or the error that it raises."""
    names = {}
    for row in rows[:-1]:
        exec(row, names)
    try:
        return repr(eval(rows[-1], names))
    except Exception as error:
        (value,) = vars(error).values()
        return f"raises {type(error).__name__}({value!r})"


class Examples(unittest.TestCase):
    def test_each_one(self):
        examples = EXAMPLES.strip().split("\n\n")
        self.assertEqual(len(examples), 27)
        for example in examples:
            *rows, expected = example.split("\n")
            self.assertTrue(all(row.startswith(">>> ") for row in rows))
            self.assertEqual(outcome([row[4:] for row in rows]), expected, example)

    def test_those_of_the_readme(self):
        text = README.read_text().replace("```\n", "\n")
        test = doctest.DocTestParser().get_doctest(text, {}, "README", str(README), 0)
        runner = doctest.DocTestRunner(verbose=False)
        # Showing a value leaves it among the builtins.
        self.addCleanup(vars(builtins).pop, "_", None)
        runner.run(test, out=lambda _: None)
        self.assertEqual(runner.summarize(verbose=False).failed, 0)
        self.assertGreater(len(test.examples), 50)
