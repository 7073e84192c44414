"""Promises [12] and [3] (a), and the interface of gaplesskeys.holding."""

import random
import unittest

from gaplesskeys.errors import InvalidMoment, UnknownEdition, UnknownName
from gaplesskeys.holding import held_by, held_range, held_run, jump_run, jumps, lockouts
from gaplesskeys.machines import World, is_run
from gaplesskeys.ranges import Range
from tests.helper import (
    LAST, LONGEST, NO_INTEGERS, NO_MOMENTS, NO_WORDS, contents, fleet_of, orderly_plan, plain_plan, plan_of,
    raised, small_fleet, small_plan, told_error,
)
from tests.model import Possible, latest_edition, lockouts_of, takes

PLAN = plain_plan(2, 5, 6, 12)
FLEET = fleet_of(
    [("app", "k", "r", 2)],
    k=(3, None, None), c=(3, 2, None), r=(2, None, "c"), s=(1, 0, "r"), t=(4, 1, "s"),
)
# One call of these has a role that the plans here do not have.
ODD = fleet_of([("app", "k", "k", 0), ("web", "k", "k", 0), ("db", "k", "k", 0)], k=(3, None, None))
FUNCTIONS = {
    held_range: ("k", 0), held_by: ("k", 5), jumps: ("k",), lockouts: (), held_run: ("k", 0, 3), jump_run: ("k", 0, 1),
}
NO_NUMBERS = [-1, 4, 7, *NO_INTEGERS]


def great_fleet():
    """A chain with the greatest gaps and ages."""
    return fleet_of(**{name: (LONGEST, LONGEST, source) for name, source in zip("abcd", [None, *"abc"])})


def great_plan():
    """Seven editions with great moments, the last of which is the last moment."""
    return plain_plan(0, 1, 10 ** 30, 10 ** 31, 5 * 10 ** 31, LAST - 1, LAST)


class Errors(unittest.TestCase):
    def check(self, call, arguments, expected, value):
        error = raised(call, *arguments)
        self.assertIs(type(error), expected, (call, arguments))
        self.assertIs(vars(error)["number" if expected is UnknownEdition else "name" if expected is UnknownName else "value"], value)

    def test_unknown_roles_come_first(self):
        for call, arguments in FUNCTIONS.items():
            self.check(call, (PLAN, ODD, *arguments), UnknownName, "web")
            self.assertEqual(told_error(call, PLAN, ODD, *["x"] * len(arguments)), (UnknownName, "web"))

    def test_unknown_kinds_come_next(self):
        for call, arguments in FUNCTIONS.items():
            for kind in [*NO_WORDS, "other", ("k",)]:
                if arguments:
                    self.check(call, (PLAN, FLEET, kind, *arguments[1:]), UnknownName, kind)
                    self.check(call, (PLAN, FLEET, kind, *[None] * (len(arguments) - 1)), UnknownName, kind)

    def test_unknown_editions_come_next(self):
        for number in NO_NUMBERS:
            self.check(held_range, (PLAN, FLEET, "k", number), UnknownEdition, number)
            for moment in [3, None]:
                self.check(held_run, (PLAN, FLEET, "k", number, moment), UnknownEdition, number)
            for late in [1, None, 9]:
                self.check(jump_run, (PLAN, FLEET, "k", number, late), UnknownEdition, number)
            self.check(jump_run, (PLAN, FLEET, "k", 0, number), UnknownEdition, number)
            self.check(jump_run, (PLAN, FLEET, "k", 3, number), UnknownEdition, number)

    def test_values_that_are_no_moments_come_last(self):
        for moment in NO_MOMENTS:
            self.check(held_by, (PLAN, FLEET, "k", moment), InvalidMoment, moment)
            self.check(held_run, (PLAN, FLEET, "k", 0, moment), InvalidMoment, moment)

    def test_by_name(self):
        named = {"plan": PLAN, "fleet": FLEET, "kind": "k"}
        self.assertEqual(held_range(number=1, **named), Range(5, 7))
        self.assertEqual(held_by(moment=7, **named), [1, 2])
        self.assertEqual(jumps(**named), [(0, 1), (0, 2), (1, 2), (2, 3)])
        self.assertEqual(lockouts(plan=PLAN, fleet=FLEET), [])
        self.assertTrue(is_run(PLAN, FLEET, held_run(number=1, moment=7, **named)))
        self.assertTrue(is_run(PLAN, FLEET, jump_run(early=0, late=2, **named)))


class Ranges(unittest.TestCase):
    def test_from_its_moment_to_the_next_one_and_the_lateness(self):
        moments = PLAN.moments()
        for kind in FLEET.names():
            lateness = FLEET.lateness(kind)
            for number in range(3):
                held = held_range(PLAN, FLEET, kind, number)
                self.assertIs(type(held), Range)
                self.assertEqual([held.first, held.last], [moments[number], moments[number + 1] + lateness - 2])

    def test_of_each_kind(self):
        found = [str(held_range(PLAN, FLEET, kind, 1)) for kind in "kcrst"]
        self.assertEqual(found, ["5 7", "5 11", "5 12", "5 12", "5 19"])

    def test_endless_for_the_last_edition(self):
        for kind in FLEET.names():
            self.assertEqual(held_range(PLAN, FLEET, kind, 3), Range(12, None))
            self.assertEqual(held_range(plain_plan(0), FLEET, kind, 0), Range(0, None))

    def test_with_a_lateness_of_1(self):
        fleet = fleet_of(k=(1, None, None))
        self.assertEqual([str(held_range(PLAN, fleet, "k", number)) for number in range(4)], ["2 4", "5 5", "6 11", "12 -"])

    def test_of_great_numbers(self):
        fleet = great_fleet()
        found = held_range(great_plan(), fleet, "d", 5)
        self.assertEqual([found.first, found.last], [LAST - 1, LAST + 12 * LONGEST - 9])
        self.assertEqual(held_range(great_plan(), fleet, "a", 0), Range(0, 3 * LONGEST - 2))

    def test_held_by(self):
        found = [held_by(PLAN, FLEET, "k", moment) for moment in range(16)]
        self.assertEqual(found[:8], [[], [], [0], [0], [0], [0, 1], [0, 1, 2], [1, 2]])
        self.assertEqual(found[8:], [[2], [2], [2], [2], [2, 3], [2, 3], [3], [3]])
        self.assertEqual([held_by(PLAN, FLEET, "k", LAST), held_by(PLAN, FLEET, "k", 0)], [[3], []])
        self.assertEqual(held_by(great_plan(), great_fleet(), "d", LAST), [4, 5, 6])

    def test_held_by_is_as_the_ranges_say(self):
        for kind in FLEET.names():
            for moment in range(40):
                expected = [n for n in range(4) if moment in held_range(PLAN, FLEET, kind, n)]
                self.assertEqual(held_by(PLAN, FLEET, kind, moment), expected)


class Jumps(unittest.TestCase):
    def test_at_most_the_lateness_less_1_behind_the_next_one(self):
        for gap in range(1, 9):
            fleet = fleet_of(k=(gap, None, None))
            expected = [
                (i, j) for i in range(4) for j in range(i + 1, 4)
                if PLAN.moment_of(j) <= PLAN.moment_of(i + 1) + gap - 1
            ]
            self.assertEqual(jumps(PLAN, fleet, "k"), expected)
        self.assertEqual(jumps(PLAN, fleet_of(k=(1, None, None)), "k"), [(0, 1), (1, 2), (2, 3)])
        self.assertEqual(jumps(PLAN, fleet_of(k=(7, None, None)), "k"), [(0, 1), (0, 2), (1, 2), (1, 3), (2, 3)])
        self.assertEqual(len(jumps(PLAN, fleet_of(k=(8, None, None)), "k")), 6)

    def test_of_a_single_edition(self):
        self.assertEqual([jumps(plain_plan(3), FLEET, "t"), lockouts(plain_plan(3), FLEET)], [[], []])

    def test_of_great_numbers(self):
        fleet = fleet_of(k=(LONGEST, LONGEST, None))
        lateness = 3 * LONGEST - 1
        for late, expected in [(LAST - 1, [(0, 1), (0, 2), (1, 2)]), (LAST, [(0, 1), (1, 2)])]:
            self.assertEqual(jumps(plain_plan(0, LAST - lateness, late), fleet, "k"), expected)

    def test_lists_are_new(self):
        jumps(PLAN, FLEET, "k").clear()
        held_by(PLAN, FLEET, "k", 5).clear()
        self.assertEqual(len(jumps(PLAN, FLEET, "k")), 4)


class Lockouts(unittest.TestCase):
    def test_jumps_whose_contents_are_not_taken(self):
        plan = plan_of(
            (0, contents(vouchers="v", needed=1, signers="v")), (1, contents(vouchers="w", needed=1, signers="v")),
            (3, contents(vouchers="w", needed=1, signers="w")),
        )
        fleet = fleet_of(m=(3, None, None), l=(2, None, None), k=(1, 2, None), n=(2, None, "l"))
        self.assertEqual(lockouts(plan, fleet), [("k", 0, 2), ("m", 0, 2), ("n", 0, 2)])
        self.assertTrue(all(type(row) is tuple for row in lockouts(plan, fleet)))

    def test_sorted_for_any_order_of_kinds(self):
        plan = plan_of(*[(at, contents(vouchers="v", needed=2)) for at in range(3)])
        expected = [(kind, i, j) for kind in ["a", "aa", "b"] for i, j in [(0, 1), (0, 2), (1, 2)]]
        for names in [["b", "a", "aa"], ["aa", "b", "a"], ["a", "aa", "b"]]:
            fleet = fleet_of(**{name: (2, None, None) for name in names})
            self.assertEqual(lockouts(plan, fleet), expected)

    def test_each_kind_can_be_locked_out_straight_behind_its_edition(self):
        plan = plan_of((0, contents(vouchers="v", needed=1)), (LAST, contents(signers="w")))
        self.assertEqual(lockouts(plan, great_fleet()), [(kind, 0, 1) for kind in "abcd"])

    def test_without_kinds(self):
        plan = plan_of((0, contents(needed=1)), (1, contents()))
        self.assertEqual(lockouts(plan, fleet_of()), [])


class Runs(unittest.TestCase):
    def check_held(self, plan, fleet, kind, number, moment):
        run = held_run(plan, fleet, kind, number, moment)
        self.assertIs(type(run), tuple)
        machines, shown = run
        self.assertEqual([shown, machines[-1][0]], [(), kind])
        self.assertEqual(World(plan, fleet, run).held(len(machines) - 1, moment), number, run)

    def check_jump(self, plan, fleet, kind, early, late):
        run = jump_run(plan, fleet, kind, early, late)
        self.assertIs(type(run), tuple)
        machines, shown = run
        last = len(machines) - 1
        self.assertEqual([shown, machines[last][0]], [(), kind])
        world = World(plan, fleet, run)
        moment, source = machines[last][3][-1]
        self.assertEqual(world.held(last, moment - 1), early, run)
        read = plan.current(moment) if source is None else world.held(source, moment)
        self.assertEqual(read, late, run)
        if plan.contents_of(early).takes(plan.contents_of(late)):
            self.assertEqual([world.held(last, moment), world.lockout(last)], [late, None])
        else:
            self.assertEqual([world.held(last, moment), world.lockout(last)], [None, (moment, early, late)])

    def test_runs_of_each_kind_show_what_is_held(self):
        for kind in FLEET.names():
            for number in range(4):
                for moment in range(40):
                    if moment in held_range(PLAN, FLEET, kind, number):
                        self.check_held(PLAN, FLEET, kind, number, moment)
                    else:
                        self.assertIsNone(held_run(PLAN, FLEET, kind, number, moment))

    def test_runs_of_each_kind_show_the_jumps(self):
        for kind in FLEET.names():
            pairs = jumps(PLAN, FLEET, kind)
            for early in range(4):
                for late in range(4):
                    if (early, late) in pairs:
                        self.check_jump(PLAN, FLEET, kind, early, late)
                    else:
                        self.assertIsNone(jump_run(PLAN, FLEET, kind, early, late))

    def test_runs_of_great_numbers(self):
        plan, fleet = great_plan(), great_fleet()
        for kind in "abcd":
            for number in range(7):
                held = held_range(plan, fleet, kind, number)
                last = LAST if held.last is None or held.last > LAST else held.last
                for moment in {held.first, held.first + 1, (held.first + last) // 2, last - 1, last} - {LAST + 1, held.first - 1}:
                    self.check_held(plan, fleet, kind, number, moment)
                if held.last is not None and held.last < LAST:
                    self.assertIsNone(held_run(plan, fleet, kind, number, held.last + 1))
            for early, late in jumps(plan, fleet, kind):
                self.check_jump(plan, fleet, kind, early, late)

    def test_a_run_of_a_single_edition_at_the_last_moment(self):
        for kind in FLEET.names():
            self.check_held(plain_plan(LAST), FLEET, kind, 0, LAST)
            self.check_held(plain_plan(0), FLEET, kind, 0, LAST)
            self.assertIsNone(held_run(plain_plan(LAST), FLEET, kind, 0, LAST - 1))

    def test_lockouts_do_not_matter_for_what_is_held(self):
        plan = plan_of(*[(at, contents(vouchers="v", needed=2)) for at in [0, 2, 3]])
        for kind in FLEET.names():
            for number in range(3):
                for moment in range(20):
                    if moment in held_range(plan, FLEET, kind, number):
                        self.check_held(plan, FLEET, kind, number, moment)
            for early, late in jumps(plan, FLEET, kind):
                self.check_jump(plan, FLEET, kind, early, late)

    def test_nothing_is_changed(self):
        plan, fleet = PLAN.twin(), fleet_of(k=(3, None, None), c=(3, 2, "k"))
        for call, arguments in FUNCTIONS.items():
            call(plan, fleet, *arguments)
        self.assertEqual([plan == PLAN, fleet == fleet_of(k=(3, None, None), c=(3, 2, "k"))], [True, True])


class AllMachines(unittest.TestCase):
    """Small plans are compared with all that any number of machines can do."""

    def check_kind(self, plan, fleet, name, possible):
        for moment in range(possible.until + 1):
            held = sorted(possible.held(name, moment))
            self.assertEqual(held_by(plan, fleet, name, moment), held)
            for number in range(len(plan)):
                self.assertIs(moment in held_range(plan, fleet, name, number), number in held)
                run = held_run(plan, fleet, name, number, moment)
                self.assertIs(run is not None, number in held)
                if run is not None:
                    self.assertEqual(World(plan, fleet, run).held(len(run[0]) - 1, moment), number)
        self.assertEqual(jumps(plan, fleet, name), sorted(possible.jumps[name]))
        for early, late in possible.jumps[name]:
            machines, _ = run = jump_run(plan, fleet, name, early, late)
            world, (moment, source) = World(plan, fleet, run), machines[-1][3][-1]
            read = latest_edition(plan, moment) if source is None else world.held(source, moment)
            self.assertEqual([world.held(len(machines) - 1, moment - 1), read], [early, late])
            self.assertIs(world.lockout(len(machines) - 1) is None, takes(plan, early, late))

    def test_as_all_machines_do(self):
        source, many = random.Random(2), 0
        for _ in range(150):
            plan = small_plan(source) if source.random() < 0.6 else orderly_plan(source)
            fleet = small_fleet(source, most=4)
            late = max(fleet.lateness(name) for name in fleet.names())
            possible = Possible(plan, fleet, plan.moments()[-1] + late + 2)
            for name in fleet.names():
                self.check_kind(plan, fleet, name, possible)
            self.assertEqual(lockouts(plan, fleet), lockouts_of(possible))
            many += len(lockouts_of(possible))
        self.assertGreater(many, 100)


class Examples(unittest.TestCase):
    def test_ranges_jumps_and_lockouts(self):
        plan = plan_of(
            (0, contents(vouchers="v", needed=1, signers="v")), (1, contents(vouchers="w", needed=1, signers="v")),
            (3, contents(vouchers="w", needed=1, signers="w")),
        )
        fleet = fleet_of(k=(3, None, None))
        self.assertEqual(
            [str(held_range(plan, fleet, "k", 0)), jumps(plan, fleet, "k"), lockouts(plan, fleet)],
            ["0 2", [(0, 1), (0, 2), (1, 2)], [("k", 0, 2)]],
        )
