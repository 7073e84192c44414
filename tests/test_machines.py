"""Promises [9], [10] and [11], and the interface of gaplesskeys.machines."""

import random
import unittest

from gaplesskeys.contents import Contents
from gaplesskeys.errors import InvalidMoment, InvalidRun, UnknownName
from gaplesskeys.fleets import Kind
from gaplesskeys.machines import World, is_run
from tests.helper import (
    LAST, LONGEST, NO_INTEGERS, NO_MOMENTS, NO_WORDS, contents, fleet_of, plain_plan, plan_of, raised,
    small_fleet, small_plan, told_error,
)
from tests.model import Referee

PLAN = plain_plan(2, 5, 9)
# k reads the publisher, c too and may begin from a copy, r and s are behind k,
# and s may begin from a copy.
FLEET = fleet_of(
    [("app", "k", "k", 2), ("app", "k", "c", 0)],
    k=(3, None, None), c=(3, 2, None), r=(2, None, "k"), s=(2, 1, "k"),
)
# None of these is a run, whatever stands in it.
NO_PAIRS = [
    *NO_INTEGERS, "ab", ((),), ((), (), ()), [(), ()], [[], []], ([], ()), ((), []), (None, ()), ((), None),
    ("", ()), ((), {}), ({}, ()), ((), ()[:0], None), object(), {0: (), 1: ()}, ((), set()),
]


def run_of(*machines, shown=()):
    return (tuple(machines), tuple(shown))


def world_of(*machines, shown=(), plan=PLAN, fleet=FLEET):
    return World(plan, fleet, run_of(*machines, shown=shown))


def held_from_to(world, machine, first, last):
    return [world.held(machine, moment) for moment in range(first, last + 1)]


class Case(unittest.TestCase):
    def right(self, *machines, shown=(), plan=PLAN, fleet=FLEET):
        run = run_of(*machines, shown=shown)
        self.assertIsNone(told_error(World, plan, fleet, run), run)
        self.assertIs(is_run(plan, fleet, run), True)

    def wrong(self, number, *machines, shown=(), plan=PLAN, fleet=FLEET):
        run = run_of(*machines, shown=shown)
        self.assertEqual(told_error(World, plan, fleet, run), (InvalidRun, number), run)
        self.assertIs(is_run(plan, fleet, run), False)


class Forms(Case):
    def test_a_run_without_machines(self):
        self.right()
        self.assertEqual(world_of().answers(), [])

    def test_values_that_are_no_pair_of_tuples(self):
        for value in NO_PAIRS:
            self.assertEqual(told_error(World, PLAN, FLEET, value), (InvalidRun, None))
            self.assertIs(is_run(PLAN, FLEET, value), False)

    def test_by_name(self):
        self.assertEqual(World(run=run_of(), fleet=FLEET, plan=PLAN).answers(), [])
        self.assertIs(is_run(candidate=run_of(), fleet=FLEET, plan=PLAN), True)

    def test_forty_machines(self):
        machine = ("k", 2, None, ())
        self.right(*[machine] * 40)
        self.wrong(None, *[machine] * 41)
        self.wrong(None, *[None] * 41)

    def test_forty_shown_credentials(self):
        machines = [("k", 2, None, ())] * 2
        shown = (0, 0, 2, 1, 3)
        self.right(*machines, shown=[shown] * 40)
        self.wrong(None, *machines, shown=[shown] * 41)
        # A run that is too long is told ahead of what is wrong in it.
        self.wrong(None, None, shown=[None] * 41)

    def test_forty_pulls(self):
        pulls = tuple((3 + at, None) for at in range(41))
        self.right(("k", 2, None, pulls[:40]))
        self.wrong(0, ("k", 2, None, pulls))
        self.wrong(1, ("k", 2, None, ()), ("k", 2, None, pulls))

    def test_machines_that_are_no_such_tuples(self):
        for machine in [
            *NO_INTEGERS, "k", ("k",), ("k", 2, None), ("k", 2, None, (), ()), ["k", 2, None, ()], {"k": 2}, "kkkk",
            ("k", 2, None, []), ("k", 2, None, None), ("k", 2, None, ""), ("k", 2, None, {}), ("k", 2, None, 0),
        ]:
            self.wrong(0, machine)
            self.wrong(1, ("k", 2, None, ()), machine)

    def test_kinds_that_are_none_of_the_fleet(self):
        for name in [*NO_WORDS, "other", "kk", FLEET["k"], ["k"]]:
            self.wrong(0, (name, 2, None, ()))

    def test_beginnings_that_are_no_moments(self):
        for moment in NO_MOMENTS:
            self.wrong(0, ("k", moment, None, ()))

    def test_pulls_that_are_no_such_tuples(self):
        for pull in [*NO_INTEGERS, (3,), (3, None, None), [3, None], "ab", {3: None}, *[(at, None) for at in NO_MOMENTS]]:
            self.wrong(0, ("k", 2, None, (pull,)))
            self.wrong(0, ("k", 2, None, ((3, None), pull)))

    def test_sources_that_are_none(self):
        for source in [*NO_INTEGERS, "k", (0,), (0, 2), -1, 1, 2]:
            if source is not None:
                self.wrong(0, ("k", 2, None, ((3, source),)))
            self.wrong(1, ("k", 2, None, ()), ("r", 2, 0, ((3, source),)))

    def test_origins_that_are_none(self):
        for origin in [*NO_INTEGERS, "k", "ab", [0, 2], (0,), (0, 2, 2), (None, 2), (0, None), (True, 2), (0, True), -1, 1]:
            if origin is not None:
                self.wrong(1, ("c", 2, None, ()), ("c", 2, origin, ()))
            self.wrong(1, ("k", 2, None, ()), ("r", 2, origin, ()))
        # True and False are no numbers of machines.
        self.right(("k", 2, None, ()), ("k", 2, None, ()), ("r", 2, 1, ((3, 0),)))
        self.wrong(2, ("k", 2, None, ()), ("k", 2, None, ()), ("r", 2, True, ()))
        self.wrong(2, ("k", 2, None, ()), ("k", 2, None, ()), ("r", 2, False, ()))
        self.wrong(2, ("k", 2, None, ()), ("k", 2, None, ()), ("r", 2, 1, ((3, True),)))
        self.wrong(2, ("k", 2, None, ()), ("k", 2, None, ()), ("r", 2, 1, ((3, False),)))
        for copy in [(True, 2), (False, 2), (0, False), (1.0, 2)]:
            self.wrong(2, ("c", 2, None, ()), ("c", 2, None, ()), ("c", 2, copy, ()))

    def test_the_first_wrong_machine_is_told(self):
        bad, good = ("k", 1, None, ()), ("k", 2, None, ())
        self.wrong(0, bad, None, shown=[None])
        self.wrong(1, good, bad, bad, shown=[None])
        self.wrong(2, good, good, ("k", 2, 0, ()), None)

    def test_wrong_shown_tuples_come_behind_all_machines(self):
        good, shown = ("k", 2, None, ()), (0, 0, 2, 1, 2)
        self.wrong(2, good, good, None, shown=[None])
        self.wrong(-1, good, good, shown=[None])
        self.wrong(-2, good, good, shown=[shown, None, None])
        self.wrong(-3, good, good, shown=[shown, shown, None])

    def test_unknown_roles_come_first(self):
        fleet = fleet_of([("app", "k", "k", 0), ("web", "k", "k", 0), ("db", "k", "k", 0)], k=(3, None, None))
        for run in [None, run_of(), run_of(None)]:
            self.assertEqual(told_error(World, PLAN, fleet, run), (UnknownName, "web"))
            self.assertEqual(told_error(is_run, PLAN, fleet, run), (UnknownName, "web"))

    def test_all_that_is_wrong_is_no_run(self):
        for value in [*NO_INTEGERS, *NO_WORDS, *NO_PAIRS]:
            self.assertIs(is_run(PLAN, FLEET, value), False)


class Machines(Case):
    def test_no_machine_begins_ahead_of_the_first_edition(self):
        self.wrong(0, ("k", 1, None, ()))
        self.wrong(0, ("k", 0, None, ((2, None),)))
        self.right(("k", 2, None, ()))

    def test_moments_up_to_the_last_one(self):
        self.right(("k", LAST, None, ()))
        self.right(("k", LAST - 1, None, ((LAST, None),)))
        self.wrong(0, ("k", LAST + 1, None, ()))
        self.wrong(0, ("k", LAST, None, ((LAST + 1, None),)))
        world = world_of(("k", LAST, None, ()))
        self.assertEqual([world.held(0, LAST - 1), world.held(0, LAST)], [None, 2])

    def test_pulls_ascend_strictly_behind_the_beginning(self):
        self.right(("k", 3, None, ((4, None), (5, None))))
        self.wrong(0, ("k", 3, None, ((3, None),)))
        self.wrong(0, ("k", 3, None, ((2, None),)))
        self.wrong(0, ("k", 3, None, ((4, None), (4, None))))
        self.wrong(0, ("k", 3, None, ((5, None), (4, None))))

    def test_at_most_gap_moments_to_each_pull(self):
        for first in range(1, 6):
            for second in range(1, 6):
                machine = ("k", 4, None, ((4 + first, None), (4 + first + second, None)))
                if first <= 3 and second <= 3:
                    self.right(machine)
                else:
                    self.wrong(0, machine)

    def test_long_gaps(self):
        fleet = fleet_of(k=(LONGEST, None, None))
        self.right(("k", 2, None, ((2 + LONGEST, None), (2 + 2 * LONGEST, None))), fleet=fleet)
        self.wrong(0, ("k", 2, None, ((3 + LONGEST, None),)), fleet=fleet)
        world = world_of(("k", 4, None, ()), fleet=fleet)
        self.assertEqual([world.held(0, 3 + LONGEST), world.held(0, 4 + LONGEST)], [0, None])

    def test_used_until_gap_less_1_behind_the_last_pull(self):
        world = world_of(("k", 4, None, ()), ("k", 2, None, ((4, None), (6, None))))
        self.assertEqual(held_from_to(world, 0, 0, 9), [None, None, None, None, 0, 0, 0, None, None, None])
        self.assertEqual(held_from_to(world, 1, 0, 10), [None, None, 0, 0, 0, 0, 1, 1, 1, None, None])

    def test_with_a_gap_of_1(self):
        fleet = fleet_of(k=(1, None, None))
        world = world_of(("k", 4, None, ()), ("k", 4, None, ((5, None), (6, None))), fleet=fleet)
        self.assertEqual(held_from_to(world, 0, 3, 6), [None, 0, None, None])
        self.assertEqual(held_from_to(world, 1, 3, 7), [None, 0, 1, 1, None])

    def test_the_publisher_tells_the_current_edition(self):
        for begun, expected in [(2, 0), (4, 0), (5, 1), (8, 1), (9, 2), (LAST, 2)]:
            self.assertEqual(world_of(("k", begun, None, ())).held(0, begun), expected)
        world = world_of(("k", 2, None, ((4, None), (5, None), (8, None), (9, None))))
        self.assertEqual(held_from_to(world, 0, 2, 11), [0, 0, 0, 1, 1, 1, 1, 2, 2, 2])

    def test_who_reads_the_publisher(self):
        self.wrong(1, ("k", 2, None, ()), ("k", 2, 0, ()))
        self.wrong(1, ("k", 2, None, ()), ("k", 2, None, ((3, 0),)))
        self.wrong(0, ("r", 2, None, ()))
        self.wrong(1, ("k", 2, None, ()), ("r", 2, None, ()))
        self.wrong(1, ("k", 2, None, ()), ("r", 2, 0, ((3, None),)))

    def test_relays_are_read(self):
        world = world_of(("k", 4, None, ((6, None),)), ("r", 5, 0, ((6, 0), (7, 0))))
        self.assertEqual(held_from_to(world, 1, 4, 9), [None, 0, 1, 1, 1, None])

    def test_each_pull_may_read_another_machine(self):
        world = world_of(("k", 4, None, ()), ("k", 5, None, ()), ("r", 4, 0, ((5, 0), (6, 1))), ("r", 4, 0, ((5, 1), (6, 0))))
        self.assertEqual(held_from_to(world, 2, 4, 8), [0, 0, 1, 1, None])
        self.assertEqual(held_from_to(world, 3, 4, 8), [0, 1, 1, 1, None])

    def test_only_machines_of_the_source_are_read(self):
        self.wrong(1, ("c", 2, None, ()), ("r", 2, 0, ()))
        self.wrong(2, ("k", 2, None, ()), ("r", 2, 0, ()), ("r", 2, 1, ()))
        self.wrong(2, ("k", 2, None, ()), ("c", 2, None, ()), ("r", 2, 0, ((3, 1),)))

    def test_only_machines_with_a_smaller_number_are_read(self):
        self.wrong(0, ("r", 2, 0, ()))
        self.wrong(0, ("r", 2, 1, ()), ("k", 2, None, ()))
        self.wrong(1, ("k", 2, None, ()), ("r", 2, 0, ((3, 2),)), ("k", 2, None, ()))

    def test_only_machines_that_can_be_used_are_read(self):
        for begun in range(2, 9):
            machines = [("k", 4, None, ()), ("r", begun, 0, ())]
            if 4 <= begun <= 6:
                self.right(*machines)
            else:
                self.wrong(1, *machines)
        self.right(("k", 4, None, ()), ("r", 5, 0, ((6, 0),)))
        self.wrong(1, ("k", 4, None, ()), ("r", 5, 0, ((6, 0), (7, 0))))

    def test_a_pull_comes_before_those_that_read_it_at_its_moment(self):
        world = world_of(
            ("k", 4, None, ((5, None),)), ("r", 5, 0, ()), ("r", 4, 0, ((5, 0),)),
        )
        self.assertEqual([world.held(1, 5), world.held(2, 4), world.held(2, 5)], [1, 0, 1])

    def test_a_chain_of_relays_within_one_moment(self):
        fleet = fleet_of(a=(2, None, None), b=(2, None, "a"), c=(2, None, "b"), d=(2, None, "c"))
        world = world_of(
            ("a", 4, None, ((5, None),)), ("b", 4, 0, ((5, 0),)), ("c", 4, 1, ((5, 1),)), ("d", 4, 2, ((5, 2),)),
            fleet=fleet,
        )
        self.assertEqual([world.held(at, 4) for at in range(4)], [0, 0, 0, 0])
        self.assertEqual([world.held(at, 5) for at in range(4)], [1, 1, 1, 1])

    def test_a_lesser_or_equal_number_is_not_taken(self):
        # The second machine of k is behind the first one.
        world = world_of(
            ("k", 4, None, ()), ("k", 5, None, ()), ("r", 5, 1, ((6, 0),)), ("r", 4, 0, ((6, 0),)),
        )
        self.assertEqual([world.held(2, 5), world.held(2, 6), world.held(3, 6)], [1, 1, 0])
        # No contents take those of an earlier edition here, but they are not asked.
        plan = plan_of((2, contents(vouchers="v", needed=1, signers="w")), (5, contents(vouchers="u", needed=1, signers="v")))
        world = world_of(
            ("k", 4, None, ()), ("k", 5, None, ()), ("r", 5, 1, ((6, 0),)), ("r", 4, 0, ((6, 0),)), plan=plan,
        )
        self.assertEqual([world.held(2, 6), world.lockout(2)], [1, None])
        self.assertEqual([world.held(3, 6), world.lockout(3)], [0, None])


class Copies(Case):
    def test_a_copy_holds_what_the_donor_held(self):
        world = world_of(("c", 4, None, ((6, None),)), ("c", 6, (0, 5), ()), ("c", 6, (0, 6), ()), ("c", 6, (0, 4), ()))
        self.assertEqual([world.held(number, 6) for number in range(4)], [1, 0, 1, 0])
        self.assertEqual(held_from_to(world, 1, 5, 9), [None, 0, 0, 0, None])

    def test_at_most_age_moments_before_the_beginning(self):
        donor = ("c", 4, None, ((7, None),))
        for begun in range(2, 13):
            for moment in range(2, 13):
                machine = ("c", begun, (0, moment), ())
                if 0 <= begun - moment <= 2 and 4 <= moment <= 9:
                    self.right(donor, machine)
                else:
                    self.wrong(1, donor, machine)

    def test_an_age_of_0(self):
        fleet = fleet_of(c=(3, 0, None))
        self.right(("c", 4, None, ()), ("c", 5, (0, 5), ()), fleet=fleet)
        self.wrong(1, ("c", 4, None, ()), ("c", 5, (0, 4), ()), fleet=fleet)

    def test_a_long_age(self):
        fleet = fleet_of(c=(3, LONGEST, None))
        world = world_of(("c", 4, None, ()), ("c", 6 + LONGEST, (0, 6), ()), fleet=fleet)
        self.assertEqual(world.held(1, 8 + LONGEST), 0)
        self.wrong(1, ("c", 4, None, ()), ("c", 7 + LONGEST, (0, 6), ()), fleet=fleet)

    def test_kinds_without_an_age(self):
        self.wrong(1, ("k", 4, None, ()), ("k", 4, (0, 4), ()))
        self.wrong(2, ("k", 4, None, ()), ("r", 4, 0, ()), ("r", 4, (1, 4), ()))

    def test_the_donor_is_of_the_same_kind(self):
        self.wrong(1, ("k", 4, None, ()), ("c", 4, (0, 4), ()))
        self.wrong(2, ("k", 4, None, ()), ("c", 4, None, ()), ("s", 4, (1, 4), ()))
        self.wrong(1, ("k", 4, None, ()), ("s", 4, (0, 4), ()))

    def test_the_donor_has_a_smaller_number(self):
        self.wrong(0, ("c", 4, (0, 4), ()))
        self.wrong(0, ("c", 4, (1, 4), ()), ("c", 4, None, ()))
        self.wrong(1, ("c", 4, None, ()), ("c", 4, (-1, 4), ()))
        self.wrong(1, ("c", 4, None, ()), ("c", 4, (2, 4), ()))

    def test_moments_of_copies_that_are_none(self):
        for moment in NO_MOMENTS:
            self.wrong(1, ("c", 4, None, ()), ("c", 4, (0, moment), ()))

    def test_numbers_of_donors_that_are_none(self):
        for number in NO_INTEGERS:
            self.wrong(1, ("c", 4, None, ()), ("c", 4, (number, 4), ()))

    def test_a_donor_that_began_from_a_copy_must_have_pulled(self):
        first, second = ("c", 4, None, ()), ("c", 5, (0, 4), ((7, None), (9, None)))
        for begun, moment in [(5, 5), (6, 5), (6, 6), (7, 6), (7, 5), (8, 6)]:
            self.wrong(2, first, second, ("c", begun, (1, moment), ()))
        for begun, moment in [(7, 7), (9, 7), (8, 8), (11, 9), (11, 11)]:
            self.right(first, second, ("c", begun, (1, moment), ()))
        self.wrong(2, first, ("c", 5, (0, 4), ()), ("c", 5, (1, 5), ()))
        # A copy of a copy's copy, each of which pulled.
        self.right(first, ("c", 5, (0, 4), ((6, None),)), ("c", 6, (1, 6), ((7, None),)), ("c", 8, (2, 7), ()))

    def test_what_the_donor_does_later_does_not_matter(self):
        world = world_of(("c", 4, None, ((5, None), (6, None))), ("c", 6, (0, 4), ()))
        self.assertEqual([world.held(0, 6), world.held(1, 6), world.held(1, 8)], [1, 0, 0])
        locked = plan_of((2, contents(vouchers="v", needed=1)), (5, contents(vouchers="w", needed=1)))
        world = world_of(("c", 4, None, ((5, None),)), ("c", 6, (0, 4), ()), plan=locked)
        self.assertEqual([world.lockout(0), world.held(0, 6), world.held(1, 6)], [(5, 0, 1), None, 0])

    def test_no_copy_of_a_locked_out_donor(self):
        locked = plan_of((2, contents(vouchers="v", needed=1)), (5, contents(vouchers="w", needed=1)))
        for moment in range(5, 9):
            self.wrong(1, ("c", 4, None, ((5, None), (7, None))), ("c", moment, (0, moment), ()), plan=locked)
        self.wrong(1, ("c", 4, None, ((5, None),)), ("c", 6, (0, 5), ()), plan=locked)

    def test_a_copy_pulls_from_its_source(self):
        world = world_of(
            ("k", 4, None, ((5, None),)), ("s", 4, 0, ()), ("s", 5, (1, 4), ((6, 0),)),
        )
        self.assertEqual([world.held(2, 5), world.held(2, 6)], [0, 1])
        self.wrong(2, ("k", 4, None, ()), ("s", 4, 0, ()), ("s", 5, (1, 4), ((6, None),)))

    def test_gaps_behind_a_copy(self):
        self.right(("c", 4, None, ()), ("c", 6, (0, 4), ((9, None),)))
        self.wrong(1, ("c", 4, None, ()), ("c", 6, (0, 4), ((10, None),)))


class Lockouts(Case):
    def setUp(self):
        # 0 takes 1, 1 takes 2, 0 does not take 2.
        self.plan = plan_of(
            (2, contents(vouchers="v", needed=1, signers="v")), (5, contents(vouchers="w", needed=1, signers="v")),
            (9, contents(vouchers="w", needed=1, signers="w")),
        )

    def test_contents_that_are_not_taken(self):
        fleet = fleet_of(k=(6, None, None))
        world = world_of(
            ("k", 4, None, ((9, None),)), ("k", 4, None, ((5, None), (9, None))), ("k", 4, None, ((8, None), (14, None))),
            plan=self.plan, fleet=fleet,
        )
        self.assertEqual([world.lockout(number) for number in range(3)], [(9, 0, 2), None, None])
        self.assertEqual(held_from_to(world, 0, 3, 12), [None, 0, 0, 0, 0, 0, None, None, None, None])
        self.assertEqual(held_from_to(world, 1, 4, 10), [0, 1, 1, 1, 1, 2, 2])
        self.assertIs(type(world.lockout(0)), tuple)

    def test_for_ever(self):
        fleet = fleet_of(k=(6, None, None))
        world = world_of(("k", 4, None, ((9, None), (10, None), (12, None))), plan=self.plan, fleet=fleet)
        self.assertEqual(world.lockout(0), (9, 0, 2))
        self.assertEqual([world.held(0, moment) for moment in [8, 9, 10, 12, 20, LAST]], [0, None, None, None, None, None])

    def test_a_later_pull_of_contents_that_would_be_taken_has_no_effect(self):
        fleet = fleet_of(k=(6, None, None), r=(6, None, "k"))
        # r is locked out by the number 2; then it reads 1, which 0 takes.
        world = world_of(
            ("k", 4, None, ()), ("k", 8, None, ()), ("k", 9, None, ()), ("r", 4, 0, ((9, 2), (10, 1))),
            plan=self.plan, fleet=fleet,
        )
        self.assertEqual([world.lockout(3), world.held(3, 10)], [(9, 0, 2), None])

    def test_later_pulls_must_still_fit(self):
        fleet = fleet_of(k=(6, None, None), r=(6, None, "k"))
        first = ("k", 4, None, ((9, None), (15, None)))
        self.right(first, plan=self.plan, fleet=fleet)
        self.wrong(0, ("k", 4, None, ((9, None), (16, None))), plan=self.plan, fleet=fleet)
        self.wrong(0, ("k", 4, None, ((9, None), (9, None))), plan=self.plan, fleet=fleet)
        self.wrong(0, ("k", 4, None, ((9, None), (10, 0))), plan=self.plan, fleet=fleet)
        machines = [("k", 4, None, ()), ("k", 9, None, ())]
        self.right(*machines, ("r", 4, 0, ((9, 1), (14, 1))), plan=self.plan, fleet=fleet)
        self.wrong(2, *machines, ("r", 4, 0, ((9, 1), (10, 0))), plan=self.plan, fleet=fleet)
        self.wrong(2, *machines, ("r", 4, 0, ((9, 1), (15, 1))), plan=self.plan, fleet=fleet)

    def test_locked_out_machines_cannot_be_read(self):
        fleet = fleet_of(k=(6, None, None), r=(6, None, "k"))
        first = ("k", 4, None, ((9, None), (12, None)))
        self.right(first, ("r", 8, 0, ()), plan=self.plan, fleet=fleet)
        for moment in [9, 10, 12, 14]:
            self.wrong(1, first, ("r", moment, 0, ()), plan=self.plan, fleet=fleet)
            self.wrong(1, first, ("r", 8, 0, ((moment, 0),)), plan=self.plan, fleet=fleet)

    def test_locked_out_machines_make_no_credentials_and_answer_no_calls(self):
        fleet = fleet_of([("app", "k", "k", 5)], k=(6, None, None))
        machines = [("k", 4, None, ((9, None),)), ("k", 8, None, ())]
        self.right(*machines, shown=[(0, 0, 8, 1, 9), (0, 1, 8, 0, 8)], plan=self.plan, fleet=fleet)
        self.wrong(-1, *machines, shown=[(0, 0, 9, 1, 9)], plan=self.plan, fleet=fleet)
        self.wrong(-1, *machines, shown=[(0, 1, 8, 0, 9)], plan=self.plan, fleet=fleet)

    def test_at_a_first_pull_from_a_relay(self):
        fleet = fleet_of(k=(6, None, None), r=(6, None, "k"))
        world = world_of(
            ("k", 4, None, ()), ("k", 9, None, ()), ("r", 5, 0, ((9, 1),)), ("r", 5, 0, ((9, 0),)),
            plan=self.plan, fleet=fleet,
        )
        self.assertEqual([world.lockout(number) for number in range(4)], [None, None, (9, 0, 2), None])

    def test_needed_numbers_and_signers(self):
        for needed in range(4):
            for signers in ["", "v", "w", "vw", "vwx", "xy"]:
                plan = plan_of((2, contents(vouchers="vw", needed=needed)), (5, contents(signers=signers)))
                lockout = world_of(("k", 4, None, ((5, None),)), plan=plan).lockout(0)
                many = len(set("vw") & set(signers))
                self.assertEqual(lockout, None if many >= needed else (5, 0, 1))

    def test_beginning_again_needs_no_vouchers(self):
        world = world_of(("k", 4, None, ()), ("k", 9, None, ()), plan=self.plan)
        self.assertEqual([world.held(1, 9), world.lockout(1)], [2, None])


class Shown(Case):
    machines = [("k", 2, None, ((4, None),)), ("k", 3, None, ()), ("c", 2, None, ())]

    def test_answers(self):
        plan = plan_of((2, contents("a", "a")), (5, contents("ab", "b")), (9, contents("b", "b")))
        fleet = fleet_of([("app", "k", "k", 9)], k=(9, None, None))
        machines = [("k", 4, None, ((5, None), (9, None))), ("k", 4, None, ((5, None), (9, None)))]
        shown = [
            (0, 0, made, 1, moment) for made, moment in [(4, 4), (4, 5), (4, 8), (4, 9), (5, 5), (8, 9), (9, 9), (5, 9)]
        ]
        world = world_of(*machines, shown=shown, plan=plan, fleet=fleet)
        self.assertEqual(world.answers(), [True, True, True, False, True, True, True, True])
        self.assertTrue(all(type(answer) is bool for answer in world.answers()))
        world = world_of(*machines, ("k", 4, None, ()), shown=[(0, 0, 5, 2, 6), (0, 2, 6, 0, 9), (0, 0, 5, 1, 5)], plan=plan, fleet=fleet)
        self.assertEqual(world.answers(), [False, False, True])

    def test_answers_are_a_new_list(self):
        world = world_of(*self.machines, shown=[(0, 0, 3, 1, 3)])
        world.answers().append(False)
        world.answers().clear()
        self.assertEqual(world.answers(), [True])

    def test_a_used_key_that_is_not_accepted_by_its_own_edition(self):
        plan = plan_of((2, contents("a", "b")))
        self.assertEqual(world_of(*self.machines, shown=[(0, 0, 3, 1, 3)], plan=plan).answers(), [False])

    def test_the_role_of_the_call(self):
        plan = plan_of((2, Contents({"app": (["a"], "a"), "web": (["a"], "b")}, [])))
        fleet = fleet_of([("web", "k", "k", 0), ("app", "k", "k", 0)], k=(3, None, None))
        shown = [(0, 0, 3, 1, 3), (1, 0, 3, 1, 3)]
        self.assertEqual(world_of(*self.machines[:2], shown=shown, plan=plan, fleet=fleet).answers(), [False, True])

    def test_values_that_are_no_such_tuples(self):
        for value in [*NO_INTEGERS, (), (0, 0, 3, 1), (0, 0, 3, 1, 3, 3), [0, 0, 3, 1, 3], "abcde", {0: 1}]:
            self.wrong(-1, *self.machines, shown=[value])

    def test_calls_that_are_none(self):
        for call in [-1, 2, 6, *NO_INTEGERS]:
            self.wrong(-1, *self.machines, shown=[(call, 0, 3, 1, 3)])
        self.wrong(-1, ("k", 2, None, ()), ("k", 2, None, ()), shown=[(0, 0, 3, 1, 3)], fleet=fleet_of(k=(3, None, None)))

    def test_machines_that_are_none(self):
        for number in [-1, -2, 3, 7, *NO_INTEGERS]:
            self.wrong(-1, *self.machines, shown=[(0, number, 3, 1, 3)])
            self.wrong(-1, *self.machines, shown=[(0, 0, 3, number, 3)])
            self.wrong(-1, *self.machines, shown=[(0, number, 3, number, 3)])

    def test_two_different_machines(self):
        self.right(*self.machines, shown=[(0, 0, 3, 1, 3)])
        self.wrong(-1, *self.machines, shown=[(0, 0, 3, 0, 3)])
        self.wrong(-1, *self.machines, shown=[(0, 1, 3, 1, 3)])

    def test_kinds_of_the_call(self):
        self.right(*self.machines, shown=[(1, 0, 3, 2, 3), (0, 1, 3, 0, 3)])
        for call, client, server in [(0, 0, 2), (0, 2, 0), (1, 0, 1), (1, 2, 0), (1, 2, 1)]:
            self.wrong(-1, *self.machines, shown=[(call, client, 3, server, 3)])

    def test_moments_that_are_none(self):
        for moment in NO_MOMENTS:
            self.wrong(-1, *self.machines, shown=[(0, 0, moment, 1, 3)])
            self.wrong(-1, *self.machines, shown=[(0, 0, 3, 1, moment)])

    def test_from_made_to_made_and_the_lifetime(self):
        for made in range(1, 9):
            for moment in range(1, 9):
                shown = [(0, 0, made, 1, moment)]
                if made <= moment <= made + 2 and 2 <= made <= 6 and 3 <= moment <= 5:
                    self.right(*self.machines, shown=shown)
                else:
                    self.wrong(-1, *self.machines, shown=shown)

    def test_a_lifetime_of_0(self):
        self.right(*self.machines, shown=[(1, 0, 4, 2, 4)])
        self.wrong(-1, *self.machines, shown=[(1, 0, 3, 2, 4)])

    def test_a_long_lifetime(self):
        fleet = fleet_of([("app", "k", "k", LONGEST)], k=(3, None, None))
        machines = [("k", 2, None, ()), ("k", 2 + LONGEST, None, ()), ("k", 3 + LONGEST, None, ())]
        self.right(*machines, shown=[(0, 0, 2, 1, 2 + LONGEST)], fleet=fleet)
        self.wrong(-1, *machines, shown=[(0, 0, 2, 2, 3 + LONGEST)], fleet=fleet)

    def test_the_client_may_be_gone_when_it_is_shown(self):
        machines = [("k", 2, None, ()), ("k", 6, None, ())]
        fleet = fleet_of([("app", "k", "k", 4)], k=(3, None, None))
        self.right(*machines, shown=[(0, 0, 4, 1, 8)], fleet=fleet)
        self.right(*machines[::-1], shown=[(0, 1, 4, 0, 8)], fleet=fleet)


class Worlds(Case):
    def test_machines_that_are_none(self):
        world = world_of(("k", 2, None, ()), ("k", 2, None, ()))
        for number in [-1, 2, 40, *NO_INTEGERS, "k"]:
            for moment in [3, None, -1]:
                error = raised(world.held, number, moment)
                self.assertIs(type(error), InvalidRun)
                self.assertIs(error.number, number)
            error = raised(world.lockout, number)
            self.assertIs(type(error), InvalidRun)
            self.assertIs(error.number, number)

    def test_moments_that_are_none(self):
        world = world_of(("k", 2, None, ()))
        for moment in NO_MOMENTS:
            error = raised(world.held, 0, moment)
            self.assertIs(type(error), InvalidMoment)
            self.assertIs(error.value, moment)

    def test_by_name(self):
        world = world_of(("k", 2, None, ()))
        self.assertEqual([world.held(machine=0, moment=2), world.lockout(machine=0)], [0, None])

    def test_ahead_of_the_beginning_and_far_behind_it(self):
        world = world_of(("k", 4, None, ()))
        self.assertEqual([world.held(0, moment) for moment in [0, 2, 3, 7, LAST]], [None] * 5)

    def test_later_changes_do_not_matter(self):
        plan, fleet = PLAN.twin(), fleet_of([("app", "k", "k", 2)], k=(3, None, None))
        world = World(plan, fleet, run_of(("k", 4, None, ((6, None),)), ("k", 4, None, ()), shown=[(0, 0, 4, 1, 5)]))
        plan[0] = (0, contents("b", "z", vouchers="v", needed=1))
        plan[1] = (7, contents("b", "z"))
        fleet["k"] = Kind(gap=1)
        self.assertEqual(held_from_to(world, 0, 3, 9), [None, 0, 0, 1, 1, 1, None])
        self.assertEqual([world.answers(), world.lockout(0)], [[True], None])

    def test_nothing_is_changed(self):
        plan, fleet = PLAN.twin(), fleet_of([("app", "k", "k", 2)], k=(3, None, None))
        is_run(plan, fleet, run_of(("k", 4, None, ((6, None),)), None))
        World(plan, fleet, run_of(("k", 4, None, ((6, None),))))
        self.assertEqual(plan, PLAN)
        self.assertEqual(fleet, fleet_of([("app", "k", "k", 2)], k=(3, None, None)))


class Random(unittest.TestCase):
    """Runs of small moments are compared with a referee that goes through all moments."""

    def some_source(self, source, kind, machines):
        if kind.source is None:
            return None if source.random() < 0.97 else 0
        fitting = [number for number, machine in enumerate(machines) if machine[0] == kind.source]
        return source.choice(fitting) if fitting and source.random() < 0.97 else source.choice([None, 0, len(machines)])

    def some_machine(self, source, fleet, start, machines):
        name = source.choice(fleet.names())
        kind = fleet[name]
        begun = max(0, start + source.choice([-1, *range(9)]))
        origin = self.some_source(source, kind, machines)
        fitting = [number for number, machine in enumerate(machines) if machine[0] == name]
        if fitting and source.random() < (0.5 if kind.age is not None else 0.05):
            origin = (source.choice(fitting), max(0, begun - source.randint(0, (kind.age or 0) + 1)))
        pulls, moment = [], begun
        for _ in range(source.choice([0, 0, 1, 2, 3, 4])):
            moment += source.randint(1, kind.gap) if source.random() < 0.97 else source.choice([0, kind.gap + 1])
            pulls.append((moment, self.some_source(source, kind, machines)))
        return (name, begun, origin, tuple(pulls))

    def some_run(self, source, plan, fleet):
        machines = []
        for _ in range(source.randint(1, 10)):
            # Most wrong machines are left out, so that the runs are not all wrong.
            for _ in range(8):
                machine = self.some_machine(source, fleet, plan.moment_of(0), machines)
                if Referee(plan, fleet, ((*machines, machine), ()), 60).wrong is None:
                    break
            machines.append(machine)
        shown = []
        for _ in range(source.randint(0, 2)):
            call = source.randrange(7) if source.random() < 0.1 else source.randrange(max(1, len(fleet.calls())))
            made = source.randint(0, 12)
            numbers = [source.randrange(len(machines)) for _ in range(2)]
            shown.append((call, numbers[0], made, numbers[1], made + source.randint(-1, 4)))
        return (tuple(machines), tuple(shown))

    def check(self, plan, fleet, run, seen):
        referee = Referee(plan, fleet, run, 60)
        seen.append(referee.wrong)
        self.assertIs(is_run(plan, fleet, run), referee.wrong is None)
        if referee.wrong is not None:
            self.assertEqual(told_error(World, plan, fleet, run), (InvalidRun, referee.wrong), run)
            return
        world = World(plan, fleet, run)
        for number in range(len(run[0])):
            self.assertEqual(held_from_to(world, number, 0, 40), [referee.table[number].get(at) for at in range(41)], run)
            self.assertEqual(world.lockout(number), referee.lockouts[number], run)
        self.assertEqual(world.answers(), referee.answers, run)

    def test_as_the_referee_says(self):
        source, seen = random.Random(1), []
        for _ in range(700):
            plan, fleet = small_plan(source), small_fleet(source)
            for _ in range(3):
                self.check(plan, fleet, self.some_run(source, plan, fleet), seen)
        self.assertGreater(seen.count(None), 400)
        self.assertGreater(len(set(seen)), 8)


class Examples(Case):
    def test_held(self):
        plan = plan_of((2, contents()), (5, contents()))
        fleet = fleet_of(k=(3, None, None))
        world = World(plan, fleet, ((("k", 4, None, ((6, None),)),), ()))
        self.assertEqual(
            [world.held(0, 5), world.held(0, 6), world.held(0, 8), world.held(0, 9), world.lockout(0)],
            [0, 1, 1, None, None],
        )

    def test_too_long_a_gap(self):
        plan = plan_of((2, contents()), (5, contents()))
        fleet = fleet_of(k=(3, None, None))
        self.wrong(1, ("k", 2, None, ()), ("k", 4, None, ((8, None),)), plan=plan, fleet=fleet)
