"""Promises [14] and [3] (c), and the interface of gaplesskeys.tables."""

import collections
import random
import unittest

from gaplesskeys.calls import is_faultless
from gaplesskeys.contents import Contents
from gaplesskeys.errors import UnknownName
from gaplesskeys.fleets import Fleet, Kind
from gaplesskeys.tables import find_table, is_table
from tests.helper import (
    LAST, LONGEST, NO_INTEGERS, NO_WORDS, contents, fleet_of, orderly_plan, plain_plan, plan_of, small_fleet,
    small_plan, told_error,
)
from tests.model import takes

CHANGE = [contents(*keys, vouchers="v", needed=1) for keys in ["a", ("ab", "a"), ("ab", "b"), "b"]]
SMOOTH = plan_of(*zip([0, 1, 3, 7], CHANGE))
FLEET = fleet_of([("app", "k", "k", 2)], k=(3, None, None))
TABLE = {
    ("call", 0, 0, 3): (4, 7), ("call", 0, 1, 3): (6, 7), ("call", 0, 2, 0): (2, 3), ("call", 0, 3, 0): (2, 7),
}
# Vouchers and signers change in two steps, so that 0 does not take 2.
SIGNED = [contents(vouchers=one, signers=two, needed=1) for one, two in [("v", "v"), ("w", "v"), ("w", "w")]]


def expected_table(plan, fleet):
    """The table by the words of [14]."""
    moments, many, table = plan.moments(), range(len(plan)), {}
    for call, (role, client, server, life) in enumerate(fleet.calls()):
        for i in many:
            for j in many:
                if plan.contents_of(i).used(role) in plan.contents_of(j).accepted(role):
                    continue
                if i == j:
                    return None
                if i < j:
                    end = moments[i + 1] + fleet.lateness(client) - 2 + life
                else:
                    end = moments[j + 1] + fleet.lateness(server) - 2
                table["call", call, i, j] = (end, moments[max(i, j)])
    for kind in fleet.names():
        for j in many:
            for i in range(j):
                if not takes(plan, i, j):
                    table["jump", kind, i, j] = (moments[i + 1] + fleet.lateness(kind) - 1, moments[j])
    return table if all(end < begin for end, begin in table.values()) else None


class Finding(unittest.TestCase):
    def test_calls(self):
        table = find_table(SMOOTH, FLEET)
        self.assertEqual(table, TABLE)
        self.assertIs(type(table), dict)
        for key, value in table.items():
            self.assertEqual([type(key), type(value)], [tuple, tuple])
            self.assertEqual([type(item) for item in key + value], [str] + [int] * 5)

    def test_jumps(self):
        fleet = fleet_of(k=(3, None, None), l=(2, 0, None), r=(2, None, "k"))
        for last in [4, 5, 6]:
            self.assertIsNone(find_table(plan_of(*zip([1, 3, last], SIGNED)), fleet))
        for last in [7, 8, LAST]:
            self.assertEqual(find_table(plan_of(*zip([1, 3, last], SIGNED)), fleet), {
                ("jump", "k", 0, 2): (3 + 3 - 1, last), ("jump", "l", 0, 2): (3 + 3 - 1, last),
                ("jump", "r", 0, 2): (3 + 4 - 1, last),
            })

    def test_a_plan_without_such_pairs_has_an_empty_table(self):
        self.assertEqual(find_table(plain_plan(0, 1, 2), FLEET), {})
        self.assertEqual(find_table(plain_plan(LAST), FLEET), {})
        self.assertEqual(find_table(SMOOTH, Fleet()), {})

    def test_end_must_be_less_than_begin(self):
        # The second moment bounds the third one, and the third one the fourth.
        for moments, is_there in [
            ([0, 1, 3, 7], True), ([0, 1, 2, 7], False), ([0, 1, 3, 6], False), ([0, 2, 3, 7], False), ([0, 2, 4, 8], True),
            ([0, 1, 4, 7], False), ([0, 1, 4, 8], True), ([6, 7, 9, 13], True), ([6, 7, 9, 12], False),
        ]:
            self.assertIs(find_table(plan_of(*zip(moments, CHANGE)), FLEET) is not None, is_there)

    def test_the_same_edition(self):
        fleet = fleet_of([("app", "k", "k", 0)], k=(1, None, None))
        self.assertIsNone(find_table(plan_of((0, contents("a", "b"))), fleet))
        self.assertIsNone(find_table(plan_of((0, contents("a")), (9, contents("ab", "c"))), fleet))
        self.assertEqual(find_table(plan_of((0, contents("a", "b"))), fleet_of(k=(1, None, None))), {})

    def test_each_call_with_its_own_kinds_role_and_lifetime(self):
        plan = plan_of(
            (0, Contents({"app": (["a"], "a"), "web": (["a"], "a")}, [], needed=0)),
            (1, Contents({"app": (["a", "b"], "a"), "web": (["a"], "a")}, [], needed=0)),
            (20, Contents({"app": (["a", "b"], "b"), "web": (["a"], "a")}, [], needed=0)),
            (60, Contents({"app": (["b"], "b"), "web": (["a"], "a")}, [], needed=0)),
        )
        calls = [("web", "k", "k", 3), ("app", "k", "l", 5), ("app", "l", "k", 0)]
        fleet = fleet_of(calls, k=(3, None, None), l=(4, 2, "k"))
        latenesses = {"k": 3, "l": 11}
        expected = {}
        for call, client, server, life in [(1, "k", "l", 5), (2, "l", "k", 0)]:
            expected["call", call, 0, 3] = (1 + latenesses[client] - 2 + life, 60)
            expected["call", call, 1, 3] = (20 + latenesses[client] - 2 + life, 60)
            expected["call", call, 2, 0] = (1 + latenesses[server] - 2, 20)
            expected["call", call, 3, 0] = (1 + latenesses[server] - 2, 60)
        self.assertEqual(find_table(plan, fleet), expected)

    def test_great_numbers(self):
        fleet = fleet_of([("app", "k", "k", LONGEST)], k=(LONGEST, LONGEST, None))
        late = 3 * LONGEST - 1
        plan = plan_of(*zip([0, 1, late, LAST], CHANGE))
        self.assertEqual(find_table(plan, fleet), {
            ("call", 0, 0, 3): (late - 1 + LONGEST, LAST), ("call", 0, 1, 3): (2 * late - 2 + LONGEST, LAST),
            ("call", 0, 2, 0): (late - 1, late), ("call", 0, 3, 0): (late - 1, LAST),
        })
        self.assertIsNone(find_table(plan_of(*zip([0, 1, late - 1, LAST], CHANGE)), fleet))

    def test_unknown_roles(self):
        fleet = fleet_of([("app", "k", "k", 0), ("web", "k", "k", 0)], k=(3, None, None))
        self.assertEqual(told_error(find_table, SMOOTH, fleet), (UnknownName, "web"))
        for candidate in [TABLE, None]:
            self.assertEqual(told_error(is_table, SMOOTH, fleet, candidate), (UnknownName, "web"))

    def test_a_table_is_new(self):
        find_table(SMOOTH, FLEET).clear()
        self.assertEqual(find_table(SMOOTH, FLEET), TABLE)

    def test_by_name(self):
        self.assertEqual(find_table(plan=SMOOTH, fleet=FLEET), TABLE)
        self.assertIs(is_table(plan=SMOOTH, fleet=FLEET, candidate=TABLE), True)

    def test_if_and_only_if_faultless(self):
        source, many = random.Random(4), 0
        for _ in range(1500):
            fleet = small_fleet(source)
            for plan in [small_plan(source), orderly_plan(source)]:
                table = find_table(plan, fleet)
                self.assertIs(table is not None, is_faultless(plan, fleet))
                self.assertEqual(table, expected_table(plan, fleet))
                many += bool(table)
        self.assertGreater(many, 50)


class Checking(unittest.TestCase):
    def test_the_table_itself(self):
        self.assertIs(is_table(SMOOTH, FLEET, TABLE), True)
        self.assertIs(is_table(SMOOTH, FLEET, dict(reversed(TABLE.items()))), True)
        self.assertIs(is_table(SMOOTH, FLEET, collections.OrderedDict(TABLE)), True)
        self.assertIs(is_table(plain_plan(0, 1), FLEET, {}), True)

    def test_any_other_value(self):
        for plan in [SMOOTH, plain_plan(0, 1), plan_of((0, contents("a", "b")))]:
            for value in [*NO_INTEGERS, *NO_WORDS, list(TABLE.items()), list(TABLE), tuple(TABLE), [], (), {0: (4, 7)}, {"call": (4, 7)}]:
                if plan is SMOOTH or value != {}:
                    self.assertIs(is_table(plan, FLEET, value), False)

    def test_a_plan_without_a_table(self):
        plan = plan_of(*zip([0, 1, 2, 7], CHANGE))
        for value in [TABLE, {}, None]:
            self.assertIs(is_table(plan, FLEET, value), False)

    def test_keys_left_out_or_added(self):
        for key in TABLE:
            other = {other: TABLE[other] for other in TABLE if other != key}
            self.assertIs(is_table(SMOOTH, FLEET, other), False)
        for key in [("call", 0, 0, 2), ("call", 1, 0, 3), ("jump", "k", 0, 3), (), 0, None, "call"]:
            self.assertIs(is_table(SMOOTH, FLEET, {**TABLE, key: (4, 7)}), False)

    def test_keys_in_the_place_of_others(self):
        for key in [
            ("call", 0, 0, 2), ("jump", 0, 0, 3), ("call", 0, 0), ("call", 0, 0, 3, 3), ("Call", 0, 0, 3),
            ("call", False, 0, 3), ("call", 0, False, 3), ("call", (0,), 0, 3), ("call", None, 0, 3), (b"call", 0, 0, 3), 7, None,
        ]:
            other = {key if old == ("call", 0, 0, 3) else old: TABLE[old] for old in TABLE}
            self.assertIs(is_table(SMOOTH, FLEET, other), False, key)

    def test_other_values(self):
        for value in [
            (5, 7), (4, 8), (7, 4), (4,), (4, 7, 7), [4, 7], "47", None, 4, {4: 7}, (4, None), (None, 7), ("4", "7"), (4, (7,)),
            (4, True), (False, 7), (4, float("nan")),
        ]:
            self.assertIs(is_table(SMOOTH, FLEET, {**TABLE, ("call", 0, 0, 3): value}), False, value)

    def test_true_is_no_number_in_it(self):
        fleet = fleet_of([("app", "k", "k", 0)] * 2, k=(1, None, None))
        plan = plan_of(*zip([0, 1, 2, 3], CHANGE))
        table = find_table(plan, fleet)
        self.assertEqual(table["call", 1, 0, 3], (0, 3))
        self.assertEqual(table["call", 1, 1, 3], (1, 3))
        self.assertIs(is_table(plan, fleet, table), True)
        for key, other in [
            (("call", 1, 0, 3), ("call", True, 0, 3)), (("call", 1, 1, 3), ("call", 1, True, 3)),
            (("call", 0, 2, 0), ("call", 0, 2, False)), (("call", 0, 0, 3), ("call", False, 0, 3)),
        ]:
            changed = {other if old == key else old: table[old] for old in table}
            self.assertEqual(changed, table)
            self.assertIs(is_table(plan, fleet, changed), False)
        for key, other in [(("call", 1, 1, 3), (True, 3)), (("call", 1, 0, 3), (False, 3))]:
            changed = {**table, key: other}
            self.assertEqual(changed, table)
            self.assertIs(is_table(plan, fleet, changed), False)

    def test_true_is_no_number_in_a_pair(self):
        fleet = fleet_of([("app", "k", "k", 0)], k=(1, None, None))
        plan = plan_of((0, contents("a")), (1, contents("ab", "b")))
        key = ("call", 0, 1, 0)
        self.assertIs(is_table(plan, fleet, {key: (0, 1)}), True)
        for pair in [(0, True), (False, 1), (False, True)]:
            self.assertEqual({key: pair}, find_table(plan, fleet))
            self.assertIs(is_table(plan, fleet, {key: pair}), False)

    def test_jumps(self):
        fleet = fleet_of(k=(1, None, None))
        plan = plan_of(*zip([0, 1, 2], SIGNED))
        self.assertIs(is_table(plan, fleet, {("jump", "k", 0, 2): (1, 2)}), True)
        for table in [
            {("jump", "l", 0, 2): (1, 2)}, {("jump", 0, 0, 2): (1, 2)}, {("call", "k", 0, 2): (1, 2)},
            {("jump", "k", False, 2): (1, 2)}, {("jump", "k", 0, 2): (True, 2)}, {("jump", "k", 0, 2): (0, 2)}, {},
        ]:
            self.assertIs(is_table(plan, fleet, table), False)

    def test_the_candidate_is_not_changed(self):
        candidate = {**TABLE, "x": 1}
        is_table(SMOOTH, FLEET, candidate)
        self.assertEqual(candidate, {**TABLE, "x": 1})

    def test_kinds_in_any_order(self):
        plan = plan_of(*zip([0, 1, 2], SIGNED))
        tables = []
        for names in ["kl", "lk"]:
            fleet = Fleet()
            for name in names:
                fleet[name] = Kind(gap=1)
            tables.append(find_table(plan, fleet))
        self.assertEqual(tables[0], tables[1])
        self.assertEqual(sorted(tables[0]), [("jump", "k", 0, 2), ("jump", "l", 0, 2)])


class Examples(unittest.TestCase):
    def test_a_table(self):
        self.assertEqual(
            sorted(find_table(SMOOTH, FLEET).items()),
            [(("call", 0, 0, 3), (4, 7)), (("call", 0, 1, 3), (6, 7)), (("call", 0, 2, 0), (2, 3)), (("call", 0, 3, 0), (2, 7))],
        )
