"""Promises [17] and [3] (e), and the interface of gaplesskeys.undoing."""

import random
import unittest

from gaplesskeys.calls import refusals
from gaplesskeys.contents import Contents
from gaplesskeys.errors import InvalidContents, InvalidMoment, LimitExceeded, UnknownEdition, UnknownName
from gaplesskeys.fleets import Fleet
from gaplesskeys.plans import Plan
from gaplesskeys.undoing import first_stuck, is_undoable, renewed_faults, undo_faults, undone
from tests.helper import (
    LAST, LONGEST, NO_CONTENTS, NO_INTEGERS, NO_MOMENTS, contents, fleet_of, orderly_plan, plain_plan, plan_of, raised,
    small_contents, small_fleet, small_plan, told_error,
)
from tests.model import Possible, cut_line, faults_by_words, faults_of, with_newest

CHANGE = [contents(*keys, vouchers="v", needed=1) for keys in ["a", ("ab", "a"), ("ab", "b"), "b"]]
SMOOTH = plan_of(*zip([0, 1, 3, 7], CHANGE))
ABRUPT = plan_of((0, contents("a")), (5, contents("b")))
FLEET = fleet_of([("app", "k", "k", 2)], k=(3, None, None))
ODD = fleet_of([("app", "k", "k", 0), ("web", "k", "k", 0), ("db", "k", "k", 0)], k=(3, None, None))
# All learn an edition at its moment.
PROMPT = fleet_of([("app", "k", "k", 0)], k=(1, None, None))
TWO_ROLES = Contents({"app": (["a"], "a"), "web": (["a"], "a")}, [])


def signed(vouchers, signers, needed=1):
    return contents(vouchers=vouchers, signers=signers, needed=needed)


class Errors(unittest.TestCase):
    def test_roles_of_calls_come_first(self):
        for call, arguments in [
            (renewed_faults, (9, None, None)), (renewed_faults, (1, contents(), 9)), (undo_faults, (1,)), (undo_faults, (0,)),
            (is_undoable, ()), (first_stuck, ()),
        ]:
            self.assertEqual(told_error(call, SMOOTH, ODD, *arguments), (UnknownName, "web"))
        for call in [is_undoable, first_stuck]:
            self.assertEqual(told_error(call, plain_plan(0), ODD), (UnknownName, "web"))

    def test_editions_come_next(self):
        for number in [-1, 4, 7, *NO_INTEGERS]:
            for error in [raised(renewed_faults, SMOOTH, FLEET, number, None, None),
                          raised(renewed_faults, SMOOTH, FLEET, number, contents(), 99), raised(undone, SMOOTH, number, None),
                          raised(undo_faults, SMOOTH, FLEET, number), raised(undone, SMOOTH, number, 99)]:
                self.assertIs(type(error), UnknownEdition)
                self.assertIs(error.number, number)
        self.assertEqual(told_error(undo_faults, SMOOTH, FLEET, 0), (UnknownEdition, 0))
        self.assertEqual(told_error(undone, SMOOTH, 0, 99), (UnknownEdition, 0))
        self.assertEqual(told_error(undone, SMOOTH, 0, None), (UnknownEdition, 0))
        self.assertIsNone(told_error(renewed_faults, SMOOTH, FLEET, 0, contents(), 1))

    def test_contents_come_next(self):
        for value in [*NO_CONTENTS, contents(role="web"), TWO_ROLES]:
            for moment in [None, 8]:
                self.assertEqual(told_error(renewed_faults, SMOOTH, FLEET, 3, value, moment), (InvalidContents, None))
        self.assertEqual(told_error(renewed_faults, Plan([(0, TWO_ROLES)]), Fleet(), 0, contents(), 1), (InvalidContents, None))

    def test_moments_come_last(self):
        for moment in [*NO_MOMENTS, 0, 2, 3]:
            for error in [raised(renewed_faults, SMOOTH, FLEET, 2, contents(), moment), raised(undone, SMOOTH, 2, moment)]:
                self.assertIs(type(error), InvalidMoment)
                self.assertIs(error.value, moment)
        # The later editions are cut away.
        for moment in [4, 7, 8, LAST]:
            self.assertIsNone(told_error(renewed_faults, SMOOTH, FLEET, 2, contents(), moment))
            self.assertIsNone(told_error(undone, SMOOTH, 2, moment))

    def test_too_many_editions(self):
        plan = plain_plan(*range(7))
        self.assertEqual(told_error(undone, plan, 6, 7), (LimitExceeded, 7))
        self.assertEqual(told_error(undone, plan, 6, 6), (InvalidMoment, 6))
        self.assertEqual(len(undone(plan, 5, 6)), 7)

    def test_nothing_changes(self):
        plan = plain_plan(*range(7))
        for call, arguments in [(undone, (6, 7)), (undone, (5, 9)), (renewed_faults, (FLEET, 6, contents(), 9)),
                                (undo_faults, (FLEET, 6)), (is_undoable, (FLEET,)), (renewed_faults, (FLEET, 2, None, 9))]:
            raised(call, plan, *arguments)
            self.assertEqual(plan, plain_plan(*range(7)))


class Renewed(unittest.TestCase):
    def test_calls_with_the_new_edition(self):
        # Edition 0 is held until 0 + 3 - 2 + its successor's moment, credentials are shown 2 moments longer.
        self.assertEqual(renewed_faults(SMOOTH, FLEET, 1, contents("b", vouchers="v", needed=1), 2), [
            ("call", 0, 0, 2), ("call", 0, 1, 2), ("call", 0, 2, 0),
        ])
        self.assertEqual(renewed_faults(SMOOTH, FLEET, 1, contents("b", vouchers="v", needed=1), 3), [
            ("call", 0, 0, 2), ("call", 0, 1, 2),
        ])
        self.assertEqual(renewed_faults(SMOOTH, FLEET, 1, contents("b", vouchers="v", needed=1), 5), [("call", 0, 1, 2)])
        self.assertEqual(renewed_faults(SMOOTH, FLEET, 2, contents("b", vouchers="v", needed=1), 6), [("call", 0, 1, 3)])
        self.assertEqual(renewed_faults(SMOOTH, FLEET, 2, contents("b", vouchers="v", needed=1), 7), [])

    def test_the_new_edition_with_itself(self):
        self.assertEqual(renewed_faults(plain_plan(0), FLEET, 0, contents("a", "b"), 9), [("call", 0, 1, 0), ("call", 0, 1, 1)])
        self.assertEqual(renewed_faults(plain_plan(0), PROMPT, 0, contents("a", "b"), LAST), [("call", 0, 1, 1)])

    def test_faults_without_the_new_edition_are_none(self):
        self.assertEqual(renewed_faults(ABRUPT, FLEET, 1, contents("ab", "a"), 6), [("call", 0, 2, 1)])
        self.assertEqual(renewed_faults(ABRUPT, FLEET, 1, contents("ab", "b"), 30), [])
        plan = plan_of((0, signed("v", "v")), (1, signed("w", "x")))
        self.assertEqual(renewed_faults(plan, FLEET, 1, signed("w", "vw"), 2), [])

    def test_jumps_to_the_new_edition(self):
        plan = plan_of((0, signed("v", "v")), (1, signed("w", "v")), (9, signed("w", "w")))
        fleet = fleet_of(k=(3, None, None), b=(2, 0, None), c=(2, None, "k"))
        # 0 is jumped over until 1 + lateness - 1, and always from the one ahead.
        latenesses = {"b": 3, "c": 4, "k": 3}
        for moment in range(2, 8):
            self.assertEqual(renewed_faults(plan, fleet, 1, signed("w", "w"), moment), [
                ("jump", kind, 0, 2) for kind in "bck" if moment <= 1 + latenesses[kind] - 1
            ])
        self.assertEqual(renewed_faults(plan, fleet, 2, signed("w", "x"), LAST), [
            ("jump", "b", 2, 3), ("jump", "c", 2, 3), ("jump", "k", 2, 3),
        ])

    def test_calls_come_before_jumps(self):
        fleet = fleet_of([("app", "z", "b", 0), ("app", "b", "z", 0)], z=(3, None, None), b=(3, None, None))
        self.assertEqual(renewed_faults(plan_of((0, signed("v", "v"))), fleet, 0, contents("b", vouchers="w", needed=0), 5), [
            ("call", 0, 0, 1), ("call", 0, 1, 0), ("call", 1, 0, 1), ("call", 1, 1, 0), ("jump", "b", 0, 1), ("jump", "z", 0, 1),
        ])

    def test_an_eighth_edition(self):
        plan = plan_of(*[(n, contents("a")) for n in range(6)], (20, contents("ab", "a")))
        found = renewed_faults(plan, FLEET, 6, contents("b"), 21)
        self.assertEqual(found, [("call", 0, 5, 7), ("call", 0, 6, 7), ("call", 0, 7, 5)])
        self.assertEqual([type(fault) for fault in found], [tuple] * 3)
        self.assertEqual(renewed_faults(plan, FLEET, 6, contents("b"), 23), [("call", 0, 5, 7), ("call", 0, 6, 7)])

    def test_great_numbers(self):
        fleet = fleet_of([("app", "k", "k", LONGEST)], k=(LONGEST, LONGEST, None))
        plan = plan_of((0, contents("a")), (5, contents("ab", "a")))
        moment = 5 + 3 * LONGEST - 1 - 2
        self.assertEqual(renewed_faults(plan, fleet, 1, contents("ab", "b"), moment), [("call", 0, 2, 0)])
        self.assertEqual(renewed_faults(plan, fleet, 1, contents("ab", "b"), moment + 1), [])
        self.assertEqual(renewed_faults(plan, fleet, 1, contents("b"), moment + LONGEST), [("call", 0, 0, 2), ("call", 0, 1, 2)])
        self.assertEqual(renewed_faults(plan, fleet, 1, contents("b"), LAST), [("call", 0, 1, 2)])

    def test_by_name_and_new(self):
        arguments = {"plan": ABRUPT, "fleet": FLEET, "number": 1, "contents": contents("ab", "a"), "moment": 6}
        renewed_faults(**arguments).clear()
        self.assertEqual(renewed_faults(**arguments), [("call", 0, 2, 1)])
        self.assertEqual(undo_faults(plan=ABRUPT, fleet=FLEET, number=1), [("call", 0, 1, 2), ("call", 0, 2, 1)])
        self.assertIs(is_undoable(plan=ABRUPT, fleet=FLEET), False)
        self.assertEqual(first_stuck(plan=ABRUPT, fleet=FLEET), 1)
        self.assertEqual(undone(plan=ABRUPT, number=1, moment=9).moments(), [0, 5, 9])

    def test_by_words_and_by_all_runs(self):
        source, many = random.Random(17), 0
        for _ in range(200):
            fleet, plan = small_fleet(source, most=2), small_plan(source)
            number, new = source.randrange(len(plan)), small_contents(source, ("app",))
            moment = plan.moment_of(number) + source.choice([1, 1, 2, 4, 7, 12])
            line = cut_line(plan, number, moment, new)
            found = renewed_faults(plan, fleet, number, new, moment)
            self.assertEqual(found, with_newest(faults_by_words(line, fleet), number + 1))
            # A machine that was locked out reads nothing more, so that only plans without lockouts show all.
            possible = Possible(line, fleet, moment + 30)
            if not [fault for fault in faults_of(possible, fleet) if fault[0] == "jump" and fault[3] <= number]:
                self.assertEqual(found, with_newest(faults_of(possible, fleet), number + 1))
                many += bool(found)
        self.assertGreater(many, 40)

    def test_by_words_with_many_editions(self):
        source = random.Random(18)
        for _ in range(800):
            fleet, plan = small_fleet(source, roles=("app", "web")), small_plan(source, most=7, roles=("app", "web"))
            number, new = source.choice([len(plan) - 1, source.randrange(len(plan))]), small_contents(source, ("app", "web"))
            moment = plan.moment_of(number) + source.choice([1, 1, 2, 4, 9, 20])
            line = cut_line(plan, number, moment, new)
            self.assertEqual(renewed_faults(plan, fleet, number, new, moment), with_newest(faults_by_words(line, fleet), number + 1))


class Undoing(unittest.TestCase):
    def test_a_plan_that_can_be_taken_back(self):
        self.assertIs(is_undoable(SMOOTH, FLEET), True)
        self.assertIsNone(first_stuck(SMOOTH, FLEET))
        for number in [1, 2, 3]:
            self.assertEqual(undo_faults(SMOOTH, FLEET, number), [])

    def test_plans_that_cannot_be_taken_back(self):
        self.assertEqual(undo_faults(ABRUPT, FLEET, 1), [("call", 0, 1, 2), ("call", 0, 2, 1)])
        self.assertIs(is_undoable(ABRUPT, FLEET), False)
        # The new contents take the old ones, the old ones take the new ones, but not themselves.
        plan = plan_of((0, signed("v", "w")), (9, signed("w", "v")))
        self.assertEqual(undo_faults(plan, fleet_of(k=(2, None, None)), 1), [("jump", "k", 0, 2)])
        self.assertEqual(undo_faults(plan, fleet_of(k=(1, None, None)), 1), [])
        # The new contents do not take the old ones.
        plan = plan_of((0, signed("v", "v")), (9, signed("w", "v")))
        self.assertEqual(undo_faults(plan, fleet_of(k=(1, None, None)), 1), [("jump", "k", 1, 2)])

    def test_the_first_of_them(self):
        plan = plan_of((0, contents("a")), (9, contents("ab", "a")), (30, contents("c")), (60, contents("d")))
        self.assertEqual(first_stuck(plan, FLEET), 2)
        self.assertEqual(first_stuck(plan.cut(2), FLEET), 2)
        self.assertIsNone(first_stuck(plan.cut(1), FLEET))
        self.assertEqual(undo_faults(plan, FLEET, 3), [
            ("call", 0, 3, 4), ("call", 0, 4, 3),
        ])

    def test_only_the_edition_and_those_ahead_count(self):
        # What is behind an edition does not hinder that it is taken back.
        plan = plan_of((0, contents("a")), (9, contents("ab", "a")), (10, contents("ab", "b")))
        self.assertEqual(undo_faults(plan, FLEET, 1), [])
        self.assertEqual(list(refusals(plan, FLEET)), [(0, 2, 0)])
        self.assertEqual(undo_faults(plan, FLEET, 2), [])

    def test_one_edition(self):
        for plan in [plain_plan(0), plan_of((5, contents("a", "b")))]:
            self.assertIs(is_undoable(plan, FLEET), True)
            self.assertIsNone(first_stuck(plan, FLEET))

    def test_it_is_at_the_next_moment(self):
        # At T(1) + 1 the contents of 0 meet those of 1, if these are still held then.
        plan = plan_of((0, contents("a")), (9, contents("b")))
        self.assertEqual(undo_faults(plan, PROMPT, 1), [])
        longer = fleet_of([("app", "k", "k", 1)], k=(1, None, None))
        self.assertEqual(undo_faults(plan, longer, 1), [("call", 0, 1, 2)])

    def test_an_eighth_edition_and_moments_that_cannot_be_given(self):
        plan = plan_of(*[(LAST - 6 + n, contents("a" if n < 6 else "b")) for n in range(7)])
        self.assertEqual(undo_faults(plan, FLEET, 6), [("call", 0, 6, 7), ("call", 0, 7, 6)])
        self.assertEqual(first_stuck(plan, FLEET), 6)
        self.assertIs(is_undoable(plain_plan(*range(LAST - 6, LAST + 1)), FLEET), True)

    def test_by_words(self):
        source, many = random.Random(19), 0
        for _ in range(600):
            fleet, plan = small_fleet(source), orderly_plan(source, most=7)
            stuck = []
            for number in range(1, len(plan)):
                line = cut_line(plan, number, plan.moment_of(number) + 1, plan.contents_of(number - 1))
                expected = with_newest(faults_by_words(line, fleet), number + 1)
                self.assertEqual(undo_faults(plan, fleet, number), expected)
                stuck += [number] * bool(expected)
            self.assertEqual(first_stuck(plan, fleet), stuck[0] if stuck else None)
            self.assertIs(is_undoable(plan, fleet), not stuck)
            many += not stuck
        self.assertGreater(many, 50)

    def test_by_all_runs_at_all_later_moments(self):
        source, undoable, stuck = random.Random(20), 0, 0
        for turn in range(240):
            fleet = small_fleet(source, most=2)
            plan = small_plan(source, most=3) if turn % 2 else orderly_plan(source, most=4)
            if [fault for fault in faults_of(Possible(plan, fleet, 45), fleet) if fault[0] == "jump"]:
                continue
            harmful = False
            for number in range(1, len(plan)):
                for delay in [1, 2, 3, 6, 11]:
                    line = cut_line(plan, number, plan.moment_of(number) + delay, plan.contents_of(number - 1))
                    found = with_newest(faults_of(Possible(line, fleet, line.moment_of(number + 1) + 25), fleet), number + 1)
                    harmful = harmful or bool(found)
            self.assertIs(is_undoable(plan, fleet), not harmful)
            undoable += not harmful
            stuck += harmful
        self.assertGreater(min(undoable, stuck), 20)


class Undone(unittest.TestCase):
    def test_the_plan(self):
        self.assertEqual(undone(SMOOTH, 2, 4), plan_of(*zip([0, 1, 3, 4], [*CHANGE[:3], CHANGE[1]])))
        self.assertEqual(undone(SMOOTH, 3, LAST), plan_of(*zip([0, 1, 3, 7, LAST], [*CHANGE, CHANGE[2]])))
        self.assertEqual(undone(SMOOTH, 1, 2), plan_of(*zip([0, 1, 2], [*CHANGE[:2], CHANGE[0]])))

    def test_it_is_new(self):
        plan = SMOOTH.twin()
        undone(plan, 3, 9).drop()
        undone(plan, 1, 9).add(10, contents())
        self.assertEqual(plan, SMOOTH)
