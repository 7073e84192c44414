"""Promise [15], and the interface of gaplesskeys.days."""

import random
import unittest

from gaplesskeys.contents import Contents
from gaplesskeys.days import accepted_ranges, late, late_run, outlived
from gaplesskeys.errors import InvalidDays, InvalidKeys, UnknownName
from gaplesskeys.machines import World
from gaplesskeys.ranges import Range
from tests.helper import (
    LAST, LONGEST, NO_INTEGERS, NO_MOMENTS, NO_WORDS, contents, fleet_of, orderly_plan, plain_plan, plan_of, raised,
    small_fleet, small_plan, told_error,
)
from tests.model import Possible

CHANGE = [contents(*keys) for keys in ["a", ("ab", "a"), ("ab", "b"), "b"]]
PLAN = plan_of(*zip([0, 1, 3, 7], CHANGE))
FLEET = fleet_of([("app", "k", "k", 2)], k=(3, None, None))
ODD = fleet_of([("app", "k", "k", 0), ("web", "k", "k", 0), ("db", "k", "k", 0)], k=(3, None, None))
APP_A = ("app", "a")
# A key that comes, goes and comes again.
GAPS = plan_of((2, contents("a")), (5, contents("b")), (8, contents("b")), (12, contents("a")), (20, contents("b")))
# Not a dict from tuples of a role of the plan and a key to moments.
NO_DAYS = [
    *[value for value in NO_INTEGERS if value != {}], "app", [(APP_A, 3)], ((APP_A, 3),), [APP_A], {APP_A},
    *[{APP_A: moment} for moment in NO_MOMENTS],
    *[{("app", key): 3} for key in NO_WORDS if not isinstance(key, (list, dict, set))],
    *[{(role, "a"): 3} for role in [*NO_WORDS, "web", "a"] if not isinstance(role, (list, dict, set))],
    {"app": 3}, {"ap": 3}, {("app",): 3}, {("app", "a", "k"): 3}, {(): 3}, {None: 3}, {0: 3}, {APP_A: 3, "app": 3},
    {APP_A: 3, ("app", "b"): True}, {("app", "b"): None, APP_A: 3}, {("a", "app"): 3}, {frozenset(APP_A): 3},
]


def texts(ranges):
    return [str(found) for found in ranges]


class Errors(unittest.TestCase):
    def test_unknown_roles_of_calls_come_first(self):
        for call, arguments in [
            (accepted_ranges, ("app", "a")), (late, ({},)), (late_run, ({}, None)), (outlived, ({},)),
            (accepted_ranges, (None, None)), (late, (None,)), (late_run, (None, None)), (outlived, (None,)),
        ]:
            self.assertEqual(told_error(call, PLAN, ODD, *arguments), (UnknownName, "web"))

    def test_values_that_are_no_days(self):
        for value in NO_DAYS:
            for error in [raised(late, PLAN, FLEET, value), raised(outlived, PLAN, FLEET, value),
                          raised(late_run, PLAN, FLEET, value, None), raised(late_run, PLAN, FLEET, value, ("app", "a", "k", 0))]:
                self.assertIs(type(error), InvalidDays, value)
                self.assertIs(error.value, value)

    def test_roles_and_then_keys(self):
        for value in [*NO_WORDS, "web", "a"]:
            for key in ["a", None]:
                error = raised(accepted_ranges, PLAN, FLEET, value, key)
                self.assertIs(type(error), UnknownName)
                self.assertIs(error.name, value)
        for key in NO_WORDS:
            error = raised(accepted_ranges, PLAN, FLEET, "app", key)
            self.assertIs(type(error), InvalidKeys)
            self.assertIs(error.value, key)

    def test_the_first_and_the_last_day(self):
        for day in [0, LAST]:
            self.assertIsNone(told_error(late, PLAN, FLEET, {APP_A: day}))
            self.assertIsNone(told_error(outlived, PLAN, FLEET, {APP_A: day}))

    def test_by_name(self):
        self.assertEqual(texts(accepted_ranges(plan=PLAN, fleet=FLEET, role="app", key="a")), ["0 8"])
        self.assertEqual(late(plan=PLAN, fleet=FLEET, days={APP_A: 8}), [("app", "a", "k", 2)])
        self.assertIsNone(late_run(plan=PLAN, fleet=FLEET, days={APP_A: 8}, candidate=None))
        self.assertEqual(outlived(plan=PLAN, fleet=FLEET, lives={APP_A: 7}), [("app", "a")])

    def test_nothing_is_changed(self):
        plan, fleet, days = PLAN.twin(), fleet_of([("app", "k", "k", 2)], k=(3, None, None)), {APP_A: 8, ("app", "b"): 2}
        late(plan, fleet, days), outlived(plan, fleet, days), accepted_ranges(plan, fleet, "app", "a")
        late_run(plan, fleet, days, ("app", "a", "k", 2))
        self.assertEqual([plan == PLAN, fleet == FLEET, days], [True, True, {APP_A: 8, ("app", "b"): 2}])
        self.assertEqual(list(days), [APP_A, ("app", "b")])


class Ranges(unittest.TestCase):
    def test_held_ranges_of_the_editions_that_accept_it(self):
        self.assertEqual(texts(accepted_ranges(PLAN, FLEET, "app", "a")), ["0 8"])
        self.assertEqual(texts(accepted_ranges(PLAN, FLEET, "app", "b")), ["1 -"])
        self.assertEqual(accepted_ranges(PLAN, FLEET, "app", "c"), [])
        self.assertTrue(all(type(found) is Range for found in accepted_ranges(PLAN, FLEET, "app", "a")))

    def test_used_keys_that_are_not_accepted(self):
        plan = plan_of((0, contents("a", "b")))
        self.assertEqual([accepted_ranges(plan, FLEET, "app", "b"), texts(accepted_ranges(plan, FLEET, "app", "a"))], [[], ["0 -"]])

    def test_vouchers_and_signers_are_not_accepted(self):
        plan = plan_of((0, contents("a", vouchers="v", signers="s")))
        self.assertEqual([accepted_ranges(plan, FLEET, "app", key) for key in "vs"], [[], []])

    def test_ranges_apart_and_together(self):
        for gap, of_a, of_b in [
            (1, ["2 4", "12 19"], ["5 11", "20 -"]), (3, ["2 6", "12 21"], ["5 13", "20 -"]), (7, ["2 10", "12 25"], ["5 17", "20 -"]),
            # As few as possible: ranges that follow each other are one.
            (8, ["2 26"], ["5 18", "20 -"]), (9, ["2 27"], ["5 -"]), (10, ["2 28"], ["5 -"]),
        ]:
            fleet = fleet_of([("app", "k", "k", 0)], k=(gap, None, None))
            self.assertEqual(texts(accepted_ranges(GAPS, fleet, "app", "a")), of_a)
            self.assertEqual(texts(accepted_ranges(GAPS, fleet, "app", "b")), of_b)

    def test_only_server_kinds_of_the_role(self):
        kinds = {"k": (3, None, None), "l": (5, None, None), "m": (9, None, None)}
        for calls, expected in [
            ([], []), ([("app", "m", "k", 9)], ["0 8"]), ([("app", "k", "l", 0)], ["0 10"]), ([("web", "k", "m", 0)], []),
            ([("app", "k", "l", 0), ("app", "k", "k", 0)], ["0 10"]), ([("app", "k", "k", 0), ("app", "k", "l", 0)], ["0 10"]),
            ([("app", "k", "k", 0), ("web", "k", "m", 0)], ["0 8"]), ([("app", "l", "k", 0)] * 3, ["0 8"]),
        ]:
            roles = [{"app": uses, "web": (["z"], "z")} for uses in [(["a"], "a"), (["a"], "a"), (["a"], "a"), (["b"], "b")]]
            plan = plan_of(*[(at, Contents(role, [])) for at, role in zip([0, 1, 3, 7], roles)])
            self.assertEqual(texts(accepted_ranges(plan, fleet_of(calls, **kinds), "app", "a")), expected)

    def test_kinds_that_are_late_for_longer_join_what_others_leave_apart(self):
        for order in [[("app", "k", "k", 0), ("app", "k", "l", 0)], [("app", "k", "l", 0), ("app", "k", "k", 0)]]:
            for names in [{"k": (1, None, None), "l": (8, None, None)}, {"l": (1, None, None), "k": (8, None, None)}]:
                self.assertEqual(texts(accepted_ranges(GAPS, fleet_of(order, **names), "app", "a")), ["2 26"])

    def test_great_numbers(self):
        fleet = fleet_of([("app", "k", "k", 0)], k=(LONGEST, LONGEST, None))
        plan = plan_of((0, contents("a")), (LAST - 1, contents("b")), (LAST, contents("a")))
        self.assertEqual(accepted_ranges(plan, fleet, "app", "a"), [Range(0, None)])
        self.assertEqual(accepted_ranges(plan, fleet, "app", "b"), [Range(LAST - 1, LAST + 3 * LONGEST - 3)])

    def test_lists_are_new(self):
        accepted_ranges(PLAN, FLEET, "app", "a").clear()
        self.assertEqual(len(accepted_ranges(PLAN, FLEET, "app", "a")), 1)


class Late(unittest.TestCase):
    def test_moments_that_are_not_before_the_day(self):
        for day, expected in [(0, [0, 1, 2]), (2, [0, 1, 2]), (3, [1, 2]), (4, [1, 2]), (5, [2]), (8, [2]), (9, []), (LAST, [])]:
            self.assertEqual(late(PLAN, FLEET, {APP_A: day}), [("app", "a", "k", number) for number in expected])
        self.assertTrue(all(type(row) is tuple for row in late(PLAN, FLEET, {APP_A: 0})))

    def test_the_last_edition_is_always_late(self):
        for day in [0, 7, 8, LAST]:
            self.assertIn(("app", "b", "k", 3), late(PLAN, FLEET, {("app", "b"): day}))

    def test_keys_that_no_edition_accepts(self):
        self.assertEqual(late(PLAN, FLEET, {("app", "z"): 0}), [])
        self.assertEqual(late(PLAN, FLEET, {}), [])

    def test_only_server_kinds_of_the_role(self):
        kinds = {"k": (3, None, None), "l": (5, None, None)}
        found = [late(PLAN, fleet_of(calls, **kinds), {APP_A: 8}) for calls in [
            [], [("app", "l", "k", 9)], [("app", "k", "l", 0)], [("app", "k", "l", 0), ("app", "k", "k", 0)], [("app", "k", "k", 0)] * 2,
        ]]
        of_k, of_l = [("app", "a", "k", 2)], [("app", "a", "l", 2)]
        self.assertEqual(found, [[], of_k, of_l, of_k + of_l, of_k])

    def test_roles_are_apart(self):
        uses = [(["a", "b"], "a"), (["b"], "b"), (["b"], "b")]
        plan = plan_of(*[(at * 9, Contents({"app": use, "web": (["a"], "a")}, [])) for at, use in enumerate(uses)])
        fleet = fleet_of([("web", "k", "l", 0), ("app", "l", "k", 0)], k=(3, None, None), l=(3, None, None))
        self.assertEqual(late(plan, fleet, {APP_A: 10}), [("app", "a", "k", 0)])
        self.assertEqual(late(plan, fleet, {APP_A: 11, ("web", "a"): 12}), [("web", "a", "l", 1), ("web", "a", "l", 2)])
        self.assertEqual(late(plan, fleet, {("web", "b"): 0}), [])

    def test_sorted_for_any_order_of_the_dict(self):
        fleet = fleet_of([("app", "k", "l", 0), ("app", "k", "k", 0)], l=(4, None, None), k=(3, None, None))
        days = {("app", "b"): 8, ("app", "c"): 0, ("app", "a"): 8}
        expected = [("app", "a", "k", 2), ("app", "a", "l", 2), ("app", "b", "k", 2), ("app", "b", "k", 3), ("app", "b", "l", 2), ("app", "b", "l", 3)]
        for order in [list(days), list(days)[::-1], sorted(days)]:
            self.assertEqual(late(PLAN, fleet, {key: days[key] for key in order}), expected)

    def test_great_numbers(self):
        fleet = fleet_of([("app", "k", "k", 0)], k=(LONGEST, LONGEST, None))
        plan = plan_of((0, contents("a")), (LAST - 3 * LONGEST + 3, contents("b")))
        self.assertEqual(late(plan, fleet, {APP_A: LAST}), [("app", "a", "k", 0)])
        sooner = plan_of((0, contents("a")), (LAST - 3 * LONGEST + 2, contents("b")))
        self.assertEqual(late(sooner, fleet, {APP_A: LAST}), [])
        self.assertEqual(late(sooner, fleet, {APP_A: LAST - 1}), [("app", "a", "k", 0)])


class Runs(unittest.TestCase):
    def check(self, plan, fleet, days, candidate):
        run = late_run(plan, fleet, days, candidate)
        self.assertIs(type(run), tuple)
        machines, shown = run
        role, key, kind, number = candidate
        moment = max(days[role, key], plan.moment_of(number))
        self.assertEqual([shown, machines[-1][0]], [(), kind])
        self.assertEqual(World(plan, fleet, run).held(len(machines) - 1, moment), number)

    def test_runs_show_what_is_late(self):
        fleet = fleet_of([("app", "k", "l", 0), ("app", "k", "r", 0)], k=(3, None, None), l=(2, 3, None), r=(2, 0, "l"))
        for plan in [PLAN, GAPS]:
            for day in range(30):
                days = {("app", key): day for key in "abc"}
                for candidate in late(plan, fleet, days):
                    self.check(plan, fleet, days, candidate)

    def test_at_the_publication_if_the_day_is_before(self):
        days = {APP_A: 0, ("app", "b"): 2}
        self.check(PLAN, FLEET, days, ("app", "a", "k", 2))
        self.check(PLAN, FLEET, days, ("app", "b", "k", 3))
        machines, _ = late_run(PLAN, FLEET, days, ("app", "a", "k", 2))
        self.assertEqual(machines[-1][1], 3)

    def test_at_the_last_moment(self):
        self.check(PLAN, FLEET, {("app", "b"): LAST}, ("app", "b", "k", 3))
        self.check(plan_of((LAST, contents("a"))), FLEET, {APP_A: 0}, ("app", "a", "k", 0))
        fleet = fleet_of([("app", "d", "d", 0)], **{name: (LONGEST, LONGEST, source) for name, source in zip("abcd", [None, *"abc"])})
        plan = plan_of((0, contents("a")), (LAST - 12 * LONGEST + 9, contents("b")))
        self.check(plan, fleet, {APP_A: LAST}, ("app", "a", "d", 0))

    def test_candidates_that_are_not_late(self):
        days = {APP_A: 8}
        for candidate in [
            *NO_INTEGERS, *NO_WORDS, ("app", "a", "k"), ("app", "a", "k", 2, 2), ["app", "a", "k", 2], ("app", "a", "k", 1),
            ("app", "a", "k", 3), ("app", "a", "l", 2), ("app", "b", "k", 2), ("web", "a", "k", 2), ("app", "a", "k", None),
            ("app", "a", "k", -1), ("app", "a", "k", "2"), ("app", "a", "k", (2,)), (["app"], "a", "k", 2), {APP_A: 2},
        ]:
            self.assertIsNone(late_run(PLAN, FLEET, days, candidate))
        self.assertIsNotNone(late_run(PLAN, FLEET, days, ("app", "a", "k", 2)))

    def test_true_is_no_number_of_an_edition(self):
        days = {APP_A: 3}
        self.assertIsNotNone(late_run(PLAN, FLEET, days, ("app", "a", "k", 1)))
        self.assertIsNone(late_run(PLAN, FLEET, days, ("app", "a", "k", True)))
        self.assertIsNone(late_run(PLAN, FLEET, {APP_A: 0}, ("app", "a", "k", False)))


class Lifetimes(unittest.TestCase):
    def test_more_than_so_many_moments_behind_the_publication(self):
        for life, expected in [(0, [APP_A]), (7, [APP_A]), (8, []), (9, []), (LAST, [])]:
            self.assertEqual(outlived(PLAN, FLEET, {APP_A: life}), expected)
        later = plan_of(*zip([5, 6, 8, 12], CHANGE))
        for life, expected in [(7, [APP_A]), (8, [])]:
            self.assertEqual(outlived(later, FLEET, {APP_A: life}), expected)
        self.assertTrue(all(type(row) is tuple for row in outlived(PLAN, FLEET, {APP_A: 0})))

    def test_from_the_first_edition_that_accepts_it(self):
        plan = plan_of((0, contents("b")), (10, contents("a")), (20, contents("b")), (30, contents("a")), (34, contents("b")))
        for life, expected in [(0, [APP_A]), (24, [APP_A]), (25, []), (26, [])]:
            self.assertEqual(outlived(plan, FLEET, {APP_A: life}), expected)
        self.assertEqual(accepted_ranges(plan, FLEET, "app", "a")[-1].last - 10, 25)

    def test_endless_ranges_break_every_lifetime(self):
        for life in [0, 5, LAST]:
            self.assertEqual(outlived(PLAN, FLEET, {("app", "b"): life}), [("app", "b")])
            self.assertEqual(outlived(plain_plan(LAST), FLEET, {APP_A: life}), [APP_A])

    def test_keys_that_no_service_accepts(self):
        self.assertEqual(outlived(PLAN, FLEET, {("app", "z"): 0}), [])
        self.assertEqual(outlived(PLAN, FLEET, {}), [])
        for calls in [[], [("web", "k", "k", 0)]]:
            plan = plan_of((0, Contents({"app": (["a"], "a"), "web": (["b"], "b")}, [])))
            self.assertEqual(outlived(plan, fleet_of(calls, k=(3, None, None)), {APP_A: 0}), [])

    def test_the_latest_server_kind_counts(self):
        kinds = {"k": (3, None, None), "l": (5, None, None), "m": (9, None, None)}
        for calls in [[("app", "m", "k", 0), ("app", "m", "l", 0)], [("app", "m", "l", 0), ("app", "m", "k", 0)]]:
            self.assertEqual([len(outlived(PLAN, fleet_of(calls, **kinds), {APP_A: life})) for life in [8, 9, 10, 11]], [1, 1, 0, 0])

    def test_sorted_for_any_order_of_the_dict(self):
        lives = {("app", "b"): 0, ("app", "c"): 0, ("app", "a"): 0}
        for order in [list(lives), list(lives)[::-1]]:
            self.assertEqual(outlived(PLAN, FLEET, {key: lives[key] for key in order}), [("app", "a"), ("app", "b")])

    def test_great_numbers(self):
        fleet = fleet_of([("app", "k", "k", 0)], k=(LONGEST, LONGEST, None))
        plan = plan_of((0, contents("a")), (LAST - 3 * LONGEST + 3, contents("b")))
        self.assertEqual([len(outlived(plan, fleet, {APP_A: life})) for life in [LAST - 1, LAST]], [1, 0])
        later = plan_of((0, contents("a")), (LAST, contents("b")))
        self.assertEqual(outlived(later, fleet, {APP_A: LAST}), [APP_A])


class AllMachines(unittest.TestCase):
    """Small plans are compared with all that any number of machines can do."""

    def check(self, plan, fleet, possible, key, day):
        servers = {server for _, _, server, _ in fleet.calls()}
        numbers = [number for number in range(len(plan)) if key in plan.contents_of(number).accepted("app")]
        at = {(kind, number): [m for m in range(possible.until + 1) if number in possible.held(kind, m)]
              for kind in servers for number in numbers}
        moments = sorted({moment for found in at.values() for moment in found})
        ranges = accepted_ranges(plan, fleet, "app", key)
        self.assertEqual([m for m in range(possible.until + 1) if any(m in found for found in ranges)], moments)
        self.assertTrue(all(ranges) and all(one.last + 1 < two.first for one, two in zip(ranges, ranges[1:])))
        expected = sorted(("app", key, *place) for place in at if max(at[place]) >= day)
        self.assertEqual(late(plan, fleet, {("app", key): day}), expected)
        if moments:
            age = moments[-1] - plan.moment_of(numbers[0])
            is_endless = moments[-1] == possible.until
            self.assertEqual(outlived(plan, fleet, {("app", key): age}), [("app", key)] if is_endless else [])
            if age:
                self.assertEqual(outlived(plan, fleet, {("app", key): age - 1}), [("app", key)])
        return len(ranges)

    def test_as_all_machines_do(self):
        source, seen = random.Random(5), []
        for _ in range(200):
            plan = small_plan(source) if source.random() < 0.5 else orderly_plan(source)
            fleet = small_fleet(source)
            until = plan.moments()[-1] + max(fleet.lateness(name) for name in fleet.names()) + 2
            possible = Possible(plan, fleet, until)
            for key in "abcd":
                seen.append(self.check(plan, fleet, possible, key, source.randint(0, until)))
        self.assertEqual(sorted(set(seen))[:3], [0, 1, 2])


class Examples(unittest.TestCase):
    def test_late_and_outlived(self):
        plan = plan_of(*zip([0, 1, 3, 7], [contents(*keys, vouchers="v", needed=1) for keys in ["a", ("ab", "a"), ("ab", "b"), "b"]]))
        self.assertEqual(
            [late(plan, FLEET, {APP_A: 8}), late(plan, FLEET, {APP_A: 9}), outlived(plan, FLEET, {APP_A: 7})],
            [[("app", "a", "k", 2)], [], [("app", "a")]],
        )
