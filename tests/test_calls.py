"""Promises [8], [13] and [3] (b), and the interface of gaplesskeys.calls."""

import random
import unittest

from gaplesskeys.calls import is_faultless, meeting_run, meetings, refusals
from gaplesskeys.contents import Contents
from gaplesskeys.errors import InvalidCall, UnknownEdition, UnknownName
from gaplesskeys.holding import lockouts
from gaplesskeys.machines import World
from tests.helper import (
    LAST, LONGEST, NO_INTEGERS, contents, fleet_of, orderly_plan, plain_plan, plan_of, raised, small_fleet,
    small_plan, told_error,
)
from tests.model import Possible, lockouts_of, meetings_of

PLAN = plain_plan(2, 5, 6, 12)
KINDS = {"k": (3, None, None), "c": (3, 2, None), "r": (2, None, "c")}
FLEET = fleet_of([("app", "k", "r", 2), ("app", "r", "k", 0), ("app", "c", "c", 1)], **KINDS)
ODD = fleet_of([("app", "k", "k", 0), ("web", "k", "k", 0), ("db", "k", "k", 0)], k=(3, None, None))
ALL = [(i, j) for i in range(4) for j in range(4)]
# A change of the key without a gap, and one at once.
SMOOTH = plan_of((0, contents("a")), (1, contents("ab", "a")), (3, contents("ab", "b")), (7, contents("b")))
ABRUPT = plan_of((0, contents("a")), (5, contents("b")))


def meet(plan, fleet, call, i, j):
    """Whether two editions meet, by the words of [13]."""
    _, client, server, life = fleet.calls()[call]
    moments = [*plan.moments(), None]
    ends = [None, None]
    for at, (number, delay) in enumerate([(i, fleet.lateness(client) - 2 + life), (j, fleet.lateness(server) - 2)]):
        if moments[number + 1] is not None:
            ends[at] = moments[number + 1] + delay
    first = max(moments[i], moments[j])
    return all(end is None or first <= end for end in ends)


class Errors(unittest.TestCase):
    def test_unknown_roles_come_first(self):
        for call, arguments in [(meetings, (0,)), (meeting_run, (0, 0, 0)), (is_faultless, ()),
                                (meetings, (9,)), (meeting_run, (9, 9, 9))]:
            self.assertEqual(told_error(call, PLAN, ODD, *arguments), (UnknownName, "web"))
        self.assertEqual(told_error(lambda: list(refusals(PLAN, ODD))), (UnknownName, "web"))
        # The refusals of the first call do not come ahead of the error.
        self.assertEqual(told_error(lambda: next(refusals(ABRUPT, ODD))), (UnknownName, "web"))

    def test_calls_that_are_none_come_next(self):
        for call in [-1, 3, 6, *NO_INTEGERS, "app", ("app", "k", "r", 2)]:
            for error in [raised(meetings, PLAN, FLEET, call), raised(meeting_run, PLAN, FLEET, call, 0, 1),
                          raised(meeting_run, PLAN, FLEET, call, None, None)]:
                self.assertIs(type(error), InvalidCall)
                self.assertIs(error.value, call)
        self.assertEqual(told_error(meetings, PLAN, fleet_of(**KINDS), 0), (InvalidCall, 0))

    def test_unknown_editions_come_last(self):
        for number in [-1, 4, 7, *NO_INTEGERS]:
            for numbers in [(number, 0), (number, None), (0, number)]:
                error = raised(meeting_run, PLAN, FLEET, 0, *numbers)
                self.assertIs(type(error), UnknownEdition)
                self.assertIs(error.number, number)

    def test_by_name(self):
        self.assertEqual(meetings(plan=PLAN, fleet=FLEET, call=0), meetings(PLAN, FLEET, 0))
        self.assertEqual(list(refusals(plan=PLAN, fleet=FLEET)), [])
        self.assertIs(is_faultless(plan=PLAN, fleet=FLEET), True)
        run = meeting_run(plan=PLAN, fleet=FLEET, call=0, early=0, late=1)
        self.assertEqual(World(PLAN, FLEET, run).answers(), [True])


class Meetings(unittest.TestCase):
    def test_where_the_ranges_have_a_common_moment(self):
        for call in range(3):
            self.assertEqual(meetings(PLAN, FLEET, call), [pair for pair in ALL if meet(PLAN, FLEET, call, *pair)])

    def test_the_first_and_the_last_moment(self):
        # The client's range of 0 is from 0 to 10 + 3 - 2 + 4, the server's from 0 to 10 + 2 - 2.
        fleet = fleet_of([("app", "k", "l", 4)], k=(3, None, None), l=(2, None, None))
        for moment, expected in [(14, True), (15, True), (16, False)]:
            self.assertIs((0, 2) in meetings(plain_plan(0, 10, moment), fleet, 0), expected)
        for moment in [11, 12, 15]:
            self.assertNotIn((2, 0), meetings(plain_plan(0, 10, moment), fleet, 0))
        # This server's range of 0 is from 0 to 10 + 4 - 2.
        late = fleet_of([("app", "k", "l", 4)], k=(3, None, None), l=(4, None, None))
        for moment, expected in [(11, True), (12, True), (13, False)]:
            self.assertIs((2, 0) in meetings(plain_plan(0, 10, moment), late, 0), expected)

    def test_the_latenesses_and_the_lifetime(self):
        for client in [1, 2, 4]:
            for server in [1, 3]:
                for life in [0, 1, 5]:
                    fleet = fleet_of([("app", "k", "l", life)], k=(client, None, None), l=(server, None, None))
                    self.assertEqual(meetings(PLAN, fleet, 0), [pair for pair in ALL if meet(PLAN, fleet, 0, *pair)])

    def test_with_latenesses_of_1_and_no_lifetime_each_meets_itself(self):
        fleet = fleet_of([("app", "k", "k", 0)], k=(1, None, None))
        self.assertEqual(meetings(PLAN, fleet, 0), [(0, 0), (1, 1), (2, 2), (3, 3)])

    def test_endless_ranges_of_the_last_edition(self):
        fleet = fleet_of([("app", "k", "k", 0)], k=(1, None, None))
        self.assertEqual(meetings(plain_plan(LAST), fleet, 0), [(0, 0)])
        long = fleet_of([("app", "k", "k", LONGEST)], k=(1, None, None))
        self.assertEqual(meetings(plain_plan(0, 1, LONGEST), long, 0), [(0, 0), (0, 1), (0, 2), (1, 1), (1, 2), (2, 2)])
        self.assertEqual(meetings(plain_plan(0, 1, LONGEST + 1), long, 0), [(0, 0), (0, 1), (1, 1), (1, 2), (2, 2)])

    def test_great_moments(self):
        fleet = fleet_of([("app", "k", "l", LONGEST)], k=(LONGEST, LONGEST, None), l=(LONGEST, None, "k"))
        # 1 + 3 * LONGEST - 2 is the lateness of the client, and it has the lifetime more.
        for second, expected in [(LAST - 4 * LONGEST + 3, True), (LAST - 4 * LONGEST + 2, False)]:
            self.assertIs((0, 2) in meetings(plain_plan(0, second, LAST), fleet, 0), expected)

    def test_lists_are_new(self):
        meetings(PLAN, FLEET, 0).clear()
        self.assertTrue(meetings(PLAN, FLEET, 0))


class Refusals(unittest.TestCase):
    def test_where_the_used_key_is_not_accepted(self):
        fleet = fleet_of([("app", "k", "k", 2)], k=(3, None, None))
        self.assertEqual(list(refusals(ABRUPT, fleet)), [(0, 0, 1), (0, 1, 0)])
        self.assertEqual(list(refusals(SMOOTH, fleet)), [])
        self.assertTrue(all(type(row) is tuple for row in refusals(ABRUPT, fleet)))

    def test_the_used_key_need_not_be_accepted_by_its_own_edition(self):
        fleet = fleet_of([("app", "k", "k", 0)], k=(1, None, None))
        plan = plan_of((0, contents("a", "b")), (3, contents("a", "a")), (4, contents("", "a")))
        self.assertEqual(list(refusals(plan, fleet)), [(0, 0, 0), (0, 2, 2)])

    def test_each_call_with_its_own_role(self):
        plan = plan_of(
            (0, Contents({"app": (["a"], "a"), "web": (["a"], "a")}, [], needed=0)),
            (5, Contents({"app": (["b"], "b"), "web": (["a"], "a")}, [], needed=0)),
        )
        calls = [("web", "k", "k", 2), ("app", "k", "k", 2), ("app", "l", "k", 0), ("app", "l", "l", 0)]
        fleet = fleet_of(calls, k=(3, None, None), l=(1, None, None))
        self.assertEqual(list(refusals(plan, fleet)), [(1, 0, 1), (1, 1, 0), (2, 1, 0)])

    def test_sorted_with_six_calls(self):
        fleet = fleet_of([("app", "k", "k", 2)] * 6, k=(3, None, None))
        self.assertEqual(list(refusals(ABRUPT, fleet)), [(call, i, 1 - i) for call in range(6) for i in range(2)])

    def test_a_generator(self):
        fleet = fleet_of([("app", "k", "k", 2)], k=(3, None, None))
        rows = refusals(ABRUPT, fleet)
        self.assertIs(iter(rows), rows)
        self.assertEqual([next(rows), next(rows), next(rows, None)], [(0, 0, 1), (0, 1, 0), None])

    def test_without_calls_or_kinds(self):
        self.assertEqual(list(refusals(ABRUPT, fleet_of(k=(3, None, None)))), [])
        self.assertIs(is_faultless(ABRUPT, fleet_of()), True)

    def test_is_faultless(self):
        fleet = fleet_of([("app", "k", "k", 2)], k=(3, None, None))
        locked = plan_of((0, contents(vouchers="v", needed=1)), (5, contents(vouchers="w")))
        self.assertIs(is_faultless(SMOOTH, fleet), True)
        self.assertIs(is_faultless(ABRUPT, fleet), False)
        self.assertIs(is_faultless(locked, fleet), False)
        self.assertEqual([list(refusals(locked, fleet)), lockouts(locked, fleet)], [[], [("k", 0, 1)]])
        self.assertIs(is_faultless(locked, fleet_of()), True)

    def test_great_latenesses(self):
        fleet = fleet_of([("app", "k", "k", LONGEST)], k=(LONGEST, LONGEST, None))
        # The credentials of 2 meet servers with 0 until T(1) + 3 * LONGEST - 3, those of 1 servers
        # with 3 until T(2) + 4 * LONGEST - 3.
        late, later = 3 * LONGEST - 1, 7 * LONGEST - 3
        for second, third, expected in [
            (1 + late - 1, 1 + later - 1, []), (1 + late - 2, 1 + later, [(0, 2, 0)]), (1 + late, 1 + later - 1, [(0, 1, 3)]),
        ]:
            plan = plan_of((0, contents("a")), (1, contents("ab", "a")), (second, contents("ab", "b")), (third, contents("b")))
            self.assertEqual(list(refusals(plan, fleet)), expected)

    def test_nothing_is_changed(self):
        plan, fleet = ABRUPT.twin(), fleet_of([("app", "k", "k", 2)], k=(3, None, None))
        list(refusals(plan, fleet)), meetings(plan, fleet, 0), meeting_run(plan, fleet, 0, 0, 1), is_faultless(plan, fleet)
        self.assertEqual([plan == ABRUPT, fleet == fleet_of([("app", "k", "k", 2)], k=(3, None, None))], [True, True])


class Runs(unittest.TestCase):
    def check(self, plan, fleet, call, early, late):
        run = meeting_run(plan, fleet, call, early, late)
        self.assertIs(type(run), tuple)
        world, (machines, shown) = World(plan, fleet, run), run
        self.assertEqual(len(shown), 1)
        number, client, made, server, moment = shown[0]
        self.assertEqual([number, world.held(client, made), world.held(server, moment)], [call, early, late], run)
        role = fleet.calls()[call][0]
        accepted = plan.contents_of(early).used(role) in plan.contents_of(late).accepted(role)
        self.assertEqual(world.answers(), [accepted])
        return accepted

    def test_runs_show_the_meetings(self):
        for call in range(3):
            pairs = meetings(PLAN, FLEET, call)
            for early, late in ALL:
                if (early, late) in pairs:
                    self.assertTrue(self.check(PLAN, FLEET, call, early, late))
                else:
                    self.assertIsNone(meeting_run(PLAN, FLEET, call, early, late))

    def test_runs_show_the_refusals(self):
        fleet = fleet_of([("app", "k", "r", 2), ("app", "r", "c", 1)], **KINDS)
        for call, early, late in refusals(ABRUPT, fleet):
            self.assertFalse(self.check(ABRUPT, fleet, call, early, late))
        self.assertEqual(len(list(refusals(ABRUPT, fleet))), 4)

    def test_runs_of_great_numbers(self):
        kinds = {name: (LONGEST, LONGEST, source) for name, source in zip("abcd", [None, *"abc"])}
        fleet = fleet_of([("app", "d", "d", LONGEST), ("app", "a", "d", 0), ("app", "d", "a", LONGEST)], **kinds)
        plan = plain_plan(0, 1, 10 ** 30, 10 ** 31, 5 * 10 ** 31, LAST - 1, LAST)
        for call in range(3):
            pairs = meetings(plan, fleet, call)
            self.assertEqual(pairs, [(i, j) for i in range(7) for j in range(7) if meet(plan, fleet, call, i, j)])
            for early, late in pairs:
                self.check(plan, fleet, call, early, late)

    def test_the_last_moment(self):
        self.check(plain_plan(LAST), FLEET, 0, 0, 0)
        self.check(plain_plan(0, LAST), FLEET, 0, 0, 1)
        self.check(plain_plan(0, LAST), FLEET, 0, 1, 0)


class AllMachines(unittest.TestCase):
    """Small plans are compared with all that any number of machines can do."""

    def test_as_all_machines_do(self):
        source, many = random.Random(3), 0
        for _ in range(150):
            plan = small_plan(source) if source.random() < 0.6 else orderly_plan(source)
            fleet = small_fleet(source)
            late = max(fleet.lateness(name) for name in fleet.names())
            possible = Possible(plan, fleet, plan.moments()[-1] + late + 4)
            expected = []
            for call, row in enumerate(fleet.calls()):
                pairs = meetings_of(possible, row)
                self.assertEqual(meetings(plan, fleet, call), pairs)
                for early, late in pairs:
                    if plan.contents_of(early).used("app") not in plan.contents_of(late).accepted("app"):
                        expected.append((call, early, late))
                    world = World(plan, fleet, meeting_run(plan, fleet, call, early, late))
                    self.assertEqual(world.answers(), [(call, early, late) not in expected])
            self.assertEqual(list(refusals(plan, fleet)), expected)
            self.assertIs(is_faultless(plan, fleet), not expected and not lockouts_of(possible))
            many += len(expected)
        self.assertGreater(many, 100)


class Examples(unittest.TestCase):
    def test_meetings_and_refusals(self):
        plan = plan_of((0, contents("a", vouchers="v", needed=1)), (5, contents("b", vouchers="v", needed=1)))
        fleet = fleet_of([("app", "k", "k", 2)], k=(3, None, None))
        self.assertEqual(
            [meetings(plan, fleet, 0), list(refusals(plan, fleet)), is_faultless(plan, fleet)],
            [[(0, 0), (0, 1), (1, 0), (1, 1)], [(0, 0, 1), (0, 1, 0)], False],
        )
