"""Promises [16] and [3] (d), and the interface of gaplesskeys.earliest."""

import itertools
import random
import unittest

from gaplesskeys.calls import is_faultless
from gaplesskeys.contents import Contents
from gaplesskeys.days import late, outlived
from gaplesskeys.earliest import earliest, find_ring, is_ring, latest, plan_of, rules, satisfies
from gaplesskeys.errors import InvalidContents, InvalidDays, InvalidMoment, InvalidPlan, UnknownName
from gaplesskeys.fleets import Fleet, Kind
from gaplesskeys.plans import Plan
from tests.helper import (
    LAST, LONGEST, NO_CONTENTS_LISTS, NO_INTEGERS, NO_MOMENTS, NO_WORDS, contents, fleet_of, near_contents,
    small_contents, small_fleet, told_error,
)

FUNCTIONS = [rules, earliest, latest, find_ring]
CHANGE = [contents(*keys, vouchers="v", needed=1) for keys in ["a", ("ab", "a"), ("ab", "b"), "b"]]
FLEET = fleet_of([("app", "k", "k", 2)], k=(3, None, None))
ODD = fleet_of([("app", "k", "k", 0), ("web", "k", "k", 0), ("db", "k", "k", 0)], k=(3, None, None))
# Vouchers and signers change in two steps, so that 0 does not take 2.
SIGNED = [contents(vouchers=one, signers=two, needed=1) for one, two in [("v", "v"), ("w", "v"), ("w", "w")]]
PLAIN = contents()
APP_A = ("app", "a")


def all_functions(items, fleet, **named):
    """Calls of all functions with the parameters that they share."""
    calls = [lambda one=one: one(items, fleet, **named) for one in FUNCTIONS]
    for candidate in [None, [], [0]]:
        calls.append(lambda candidate=candidate: is_ring(items, fleet, candidate, **named))
        calls.append(lambda candidate=candidate: satisfies(items, fleet, candidate, **named))
    return calls


def expected_rules(items, fleet, start=0, days=None, lives=None):
    """The rules by the words of [16]."""
    last = len(items) - 1
    found = [(0, -1, start), (-1, 0, -start)] + [(n + 1, n, 1) for n in range(last)]
    takes = [[len(set(one.vouchers) & set(two.signers)) >= one.needed for two in items] for one in items]
    for i, j in itertools.product(range(last + 1), repeat=2):
        for role, client, server, life in fleet.calls():
            if items[i].used(role) not in items[j].accepted(role):
                if i < j:
                    found.append((j, i + 1, fleet.lateness(client) + life - 1))
                if i > j:
                    found.append((i, j + 1, fleet.lateness(server) - 1))
                if i == j:
                    found.append((i, i, 1))
        if i < j and not takes[i][j]:
            found += [(j, i + 1, fleet.lateness(name)) for name in fleet.names()]
    for table in [days or {}, lives or {}]:
        for (role, key), number in table.items():
            accepting = [n for n in range(last + 1) if key in items[n].accepted(role)]
            for n, (called, _, server, _) in itertools.product(accepting, fleet.calls()):
                lateness, first = fleet.lateness(server), accepting[0]
                if called == role and table is days:
                    found.append((-1, -1, 1) if n == last else (-1, n + 1, lateness - 1 - number))
                elif called == role:
                    found.append((first, first, 1) if n == last else (first, n + 1, lateness - 2 - number))
    pairs = {(later, earlier) for later, earlier, _ in found}
    found = [(*pair, max(wait for *other, wait in found if tuple(other) == pair)) for pair in pairs]
    return sorted(rule for rule in found if rule[0] != rule[1] or rule[2] > 0)


def hold_together(found):
    """Whether some moments satisfy rules: no way around has a positive sum."""
    numbers = sorted({number for *pair, _ in found for number in pair})
    waits = {(one, two): -float("inf") for one in numbers for two in numbers}
    for later, earlier, wait in found:
        waits[later, earlier] = max(waits[later, earlier], wait)
    for middle, one, two in itertools.product(numbers, repeat=3):
        waits[one, two] = max(waits[one, two], waits[one, middle] + waits[middle, two])
    return all(waits[number, number] <= 0 for number in numbers)


class Case(unittest.TestCase):
    def assert_ring(self, ring, found):
        self.assertIs(type(ring), list)
        self.assertTrue(ring)
        self.assertTrue(set(ring) <= set(found))
        self.assertEqual(len(set(ring)), len(ring))
        for at, (_, behind, _) in enumerate(ring):
            self.assertEqual(behind, ring[at - 1][0])
        self.assertGreater(sum(wait for _, _, wait in ring), 0)


class Errors(unittest.TestCase):
    def test_contents_come_first(self):
        for items in NO_CONTENTS_LISTS:
            for call in all_functions(items, ODD, start=-1, days=1, lives=1) + all_functions(items, FLEET):
                self.assertEqual(told_error(call), (InvalidContents, None))
            self.assertEqual(told_error(plan_of, items, None), (InvalidContents, None))

    def test_roles_of_calls_come_next(self):
        for call in all_functions(CHANGE, ODD, start=-1, days=1, lives=1) + all_functions([PLAIN], ODD):
            self.assertEqual(told_error(call), (UnknownName, "web"))

    def test_the_start_comes_next(self):
        for start in [*NO_INTEGERS, -1, LONGEST + 1, LAST]:
            for call in all_functions(CHANGE, FLEET, start=start, days=1, lives=1):
                found, value = told_error(call)
                self.assertIs(found, InvalidMoment)
                self.assertIs(value, start)
        for call in all_functions(CHANGE, FLEET, start=LONGEST) + all_functions(CHANGE, FLEET, start=0):
            self.assertIsNone(told_error(call))

    def test_days_and_then_lives_come_last(self):
        wrong = [
            False, 0, "app", [], [(APP_A, 3)], (APP_A, 3), {APP_A}, {APP_A: None}, {"app": 3}, {("app",): 3},
            {("web", "a"): 3}, {("app", "a", "b"): 3}, {("a", "app"): 3}, {APP_A: 3, ("app", ""): 3},
            *[{APP_A: moment} for moment in NO_MOMENTS],
            *[{("app", key): 3} for key in NO_WORDS if not isinstance(key, (list, dict, set))],
        ]
        for value in wrong:
            for named in [{"days": value}, {"lives": value}, {"days": value, "lives": 1}, {"days": {}, "lives": value}]:
                for call in all_functions(CHANGE, FLEET, **named):
                    found, told = told_error(call)
                    self.assertIs(found, InvalidDays)
                    self.assertIs(told, value)
        for value in [None, {}, {APP_A: 0}, {APP_A: LAST}, {("app", "zzz"): 1}]:
            for call in all_functions(CHANGE, FLEET, days=value) + all_functions(CHANGE, FLEET, lives=value):
                self.assertIsNone(told_error(call))

    def test_keyword_only(self):
        for call in FUNCTIONS:
            with self.assertRaises(TypeError):
                call(CHANGE, FLEET, 0)
        for call in [is_ring, satisfies]:
            with self.assertRaises(TypeError):
                call(CHANGE, FLEET, [], 0)


class Rules(unittest.TestCase):
    def test_order_and_start(self):
        empty = Fleet()
        self.assertEqual(rules([PLAIN], empty), [(-1, 0, 0), (0, -1, 0)])
        self.assertEqual(rules([PLAIN] * 3, empty, start=5), [(-1, 0, -5), (0, -1, 5), (1, 0, 1), (2, 1, 1)])
        self.assertEqual(len(rules([PLAIN] * 7, FLEET)), 8)

    def test_calls(self):
        # The client has the lateness 3 and the server 7; the lifetime is 5.
        fleet = fleet_of([("app", "k", "l", 5)], k=(3, None, None), l=(3, 2, None))
        order = [(-1, 0, 0), (0, -1, 0), (1, 0, 1)]
        self.assertEqual(rules(CHANGE, fleet), sorted([
            *order, (3, 2, 7), (3, 1, 7), (2, 1, 6),
        ]))
        self.assertEqual(rules([contents("a"), contents("b")], fleet), [*order, (1, 1, 7)])
        # With roles changed the other lateness counts.
        other = fleet_of([("app", "l", "k", 5)], k=(3, None, None), l=(3, 2, None))
        self.assertEqual(rules(CHANGE, other), sorted([*order, (3, 2, 11), (3, 1, 11), (2, 1, 2)]))

    def test_the_same_edition(self):
        self.assertEqual(rules([contents("a", "b")], FLEET), [(-1, 0, 0), (0, -1, 0), (0, 0, 1)])
        self.assertIn((1, 1, 1), rules([contents("ab"), contents("a", "b")], fleet_of([("app", "k", "k", 0)], k=(1, None, None))))
        self.assertEqual(rules([contents("a", "b")], Fleet()), [(-1, 0, 0), (0, -1, 0)])

    def test_waits_of_at_most_0_are_left_out_for_one_edition_only(self):
        # All learn at once and credentials are used at once.
        fleet = fleet_of([("app", "k", "k", 0)], k=(1, None, None))
        self.assertEqual(rules([contents("a"), contents("b")], fleet), [(-1, 0, 0), (0, -1, 0), (1, 0, 1)])
        self.assertEqual(rules([contents("a"), contents("ab"), contents("b")], fleet),
                         [(-1, 0, 0), (0, -1, 0), (1, 0, 1), (2, 1, 1)])
        # The wait 0 of the call is less than 1 there, and -start is kept.
        self.assertIn((-1, 0, -9), rules([PLAIN], fleet, start=9))
        # With a lifetime of 1 there is a wait.
        longer = fleet_of([("app", "k", "k", 1)], k=(1, None, None))
        self.assertIn((1, 1, 1), rules([contents("a"), contents("b")], longer))

    def test_lockouts(self):
        fleet = fleet_of(k=(3, None, None), l=(2, 1, "k"))
        self.assertEqual(rules(SIGNED, fleet), [(-1, 0, 0), (0, -1, 0), (1, 0, 1), (2, 1, 6)])
        self.assertEqual(rules([SIGNED[0], SIGNED[2]], fleet), [(-1, 0, 0), (0, -1, 0), (1, 0, 1), (1, 1, 6)])
        self.assertEqual(rules([SIGNED[0], SIGNED[2]], Fleet()), [(-1, 0, 0), (0, -1, 0), (1, 0, 1)])
        # Nothing is said of contents that do not take themselves or earlier ones.
        self.assertEqual(rules([SIGNED[1]], fleet), [(-1, 0, 0), (0, -1, 0)])

    def test_days(self):
        fleet = fleet_of([("app", "k", "l", 0), ("app", "l", "m", 0)], k=(9, None, None), l=(3, None, None), m=(2, 2, None))
        self.assertEqual(rules(CHANGE, fleet, days={APP_A: 30}), sorted([
            *rules(CHANGE, fleet), (-1, 1, 5 - 1 - 30), (-1, 2, 5 - 1 - 30), (-1, 3, 5 - 1 - 30),
        ]))
        # The last edition accepts it for ever.
        self.assertEqual(rules(CHANGE, fleet, days={("app", "b"): LAST}), sorted([
            *rules(CHANGE, fleet), (-1, -1, 1), (-1, 2, 4 - LAST), (-1, 3, 4 - LAST),
        ]))
        self.assertEqual(rules(CHANGE, fleet, days={("app", "zzz"): 0}), rules(CHANGE, fleet))
        self.assertEqual(rules(CHANGE, Fleet(), days={APP_A: 0, ("app", "b"): 0}), rules(CHANGE, Fleet()))

    def test_lifetimes(self):
        fleet = fleet_of([("app", "k", "l", 0), ("app", "l", "m", 0)], k=(9, None, None), l=(3, None, None), m=(2, 2, None))
        self.assertEqual(rules(CHANGE, fleet, lives={APP_A: 30}), sorted([
            *rules(CHANGE, fleet), (0, 1, 5 - 2 - 30), (0, 2, 5 - 2 - 30), (0, 3, 5 - 2 - 30),
        ]))
        self.assertEqual(rules(CHANGE, fleet, lives={("app", "b"): 30}), sorted([
            *rules(CHANGE, fleet), (1, 1, 1), (1, 2, 5 - 2 - 30), (1, 3, 5 - 2 - 30),
        ]))
        self.assertEqual(rules(CHANGE, fleet, lives={("app", "zzz"): 0}), rules(CHANGE, fleet))
        self.assertEqual(rules(CHANGE, Fleet(), lives={APP_A: 0}), rules(CHANGE, Fleet()))
        # Without an edition that accepts it between, the first one still counts.
        items = [contents("a"), contents("b"), contents("ab"), contents("b")]
        self.assertLessEqual({(0, 1, 5 - 2 - 9), (0, 3, 5 - 2 - 9)}, set(rules(items, fleet, lives={APP_A: 9})))

    def test_the_greatest_wait_of_each_pair(self):
        fleet = fleet_of([("app", "k", "k", 1), ("app", "l", "k", 3), ("app", "k", "l", 2)], k=(3, None, None), l=(4, None, None))
        found = rules(CHANGE, fleet)
        self.assertEqual([rule for rule in found if rule[:2] == (3, 2)], [(3, 2, 6)])
        self.assertEqual([rule for rule in found if rule[:2] == (2, 1)], [(2, 1, 3)])
        days = {("app", key): day for key, day in [("a", 40), ("b", 30)]}
        items = [contents("ab"), contents("c")]
        self.assertIn((-1, 1, 4 - 1 - 30), rules(items, fleet, days=days))
        self.assertNotIn((-1, 1, 4 - 1 - 40), rules(items, fleet, days=days))

    def test_each_role_for_itself(self):
        one = Contents({"app": (["a"], "a"), "web": (["a"], "a")}, [], needed=0)
        two = one.changed("web", accepted=["a", "b"]).changed("web", used="b")
        fleet = fleet_of([("app", "k", "k", 0)], k=(3, None, None))
        self.assertEqual(rules([one, two], fleet, days={("web", "a"): 3}), rules([one, one], fleet))
        fleet.add_call("web", "k", "k")
        self.assertIn((1, 1, 2), rules([one, two], fleet))
        self.assertIn((-1, 1, -1), rules([one, one.changed("web", accepted=["b"])], fleet, days={("web", "a"): 3}))

    def test_by_the_words_of_the_document(self):
        source = random.Random(16)
        for _ in range(1500):
            fleet = small_fleet(source, roles=("app", "web"))
            items = [small_contents(source, ("app", "web")) for _ in range(source.randint(1, 7))]
            named = {"start": source.randint(0, 3)}
            for name in ["days", "lives"]:
                named[name] = {(source.choice(["app", "web"]), source.choice("abcz")): source.randint(0, 40)
                               for _ in range(source.randint(0, 3))}
            self.assertEqual(rules(items, fleet, **named), expected_rules(items, fleet, **named))
            self.assertEqual(rules(items, fleet), expected_rules(items, fleet))

    def test_kinds_of_values_and_new_lists(self):
        found = rules(CHANGE, FLEET, days={APP_A: 12})
        self.assertIs(type(found), list)
        for rule in found:
            self.assertEqual([type(rule), *map(type, rule)], [tuple, int, int, int])
        found.clear()
        self.assertEqual(len(rules(CHANGE, FLEET, days={APP_A: 12})), 9)

    def test_great_numbers(self):
        fleet = fleet_of([("app", "k", "l", LONGEST)], k=(LONGEST, LONGEST, None), l=(LONGEST, LONGEST, "k"))
        found = rules(CHANGE, fleet, start=LONGEST, days={APP_A: LAST})
        self.assertIn((3, 2, 3 * LONGEST - 1 + LONGEST - 1), found)
        self.assertIn((2, 1, 6 * LONGEST - 3 - 1), found)
        self.assertIn((-1, 3, 6 * LONGEST - 3 - 1 - LAST), found)
        least = [LONGEST, LONGEST + 1, 7 * LONGEST - 3, 11 * LONGEST - 5]
        self.assertEqual(earliest(CHANGE, fleet, start=LONGEST), least)
        self.assertEqual(latest(CHANGE, fleet, start=LONGEST, days={APP_A: LAST})[3], LAST - 6 * LONGEST + 4)


class Moments(Case):
    def test_earliest_and_latest(self):
        self.assertEqual(earliest(CHANGE, FLEET), [0, 1, 3, 7])
        self.assertEqual(earliest(CHANGE, FLEET, start=9), [9, 10, 12, 16])
        self.assertEqual(latest(CHANGE, FLEET), [0, None, None, None])
        self.assertEqual(latest(CHANGE, FLEET, start=9), [9, None, None, None])
        self.assertEqual(latest(CHANGE, FLEET, days={APP_A: 12}), [0, 4, 6, 10])
        self.assertEqual(latest(CHANGE, FLEET, start=3, days={APP_A: 12}), [3, 4, 6, 10])
        self.assertEqual(earliest(CHANGE, FLEET, start=3, days={APP_A: 12}), [3, 4, 6, 10])

    def test_days_and_lifetimes_that_just_hold(self):
        # At the earliest, a is accepted until 7 + 3 - 2.
        for day, expected in [(8, None), (9, [0, 1, 3, 7]), (10, [0, 1, 3, 7])]:
            self.assertEqual(earliest(CHANGE, FLEET, days={APP_A: day}), expected)
        for day, expected in [(8, None), (9, [0, 1, 3, 7]), (10, [0, 2, 4, 8])]:
            self.assertEqual(latest(CHANGE, FLEET, days={APP_A: day}), expected)
        for life, expected in [(7, None), (8, [4, 5, 7, 11]), (9, [4, 6, 8, 12])]:
            self.assertEqual(latest(CHANGE, FLEET, start=4, lives={APP_A: life}), expected)
            self.assertEqual(earliest(CHANGE, FLEET, start=4, lives={APP_A: life}), expected and [4, 5, 7, 11])
        self.assertEqual(latest(CHANGE, FLEET, days={APP_A: 30}, lives={APP_A: 9}), [0, 2, 4, 8])
        self.assertEqual(latest(CHANGE, FLEET, days={APP_A: 9}, lives={APP_A: 30}), [0, 1, 3, 7])

    def test_a_lifetime_may_make_an_edition_later(self):
        fleet = fleet_of([("app", "k", "k", 0)], k=(3, None, None))
        # The first contents do not take the last ones, which so wait for edition 1.
        items = [contents("b", vouchers="v", signers="v", needed=1), contents("b", vouchers="w", signers="v", needed=1),
                 contents("ab", "b", vouchers="w", signers="vw", needed=1), contents("b", vouchers="w", signers="w", needed=1)]
        self.assertEqual(earliest(items, fleet), [0, 1, 2, 4])
        for life, expected in [(4, [0, 1, 2, 4]), (3, [0, 1, 2, 4]), (2, [0, 1, 3, 4]), (1, None)]:
            self.assertEqual(earliest(items, fleet, lives={APP_A: life}), expected)

    def test_no_moments(self):
        for items, named in [
            ([contents("a"), contents("b")], {}), ([contents("a", "b")], {}), ([contents("a")], {"days": {APP_A: LAST}}),
            ([contents("a")], {"lives": {APP_A: LAST}}), (CHANGE, {"lives": {APP_A: 7}}),
            (CHANGE, {"start": 3, "days": {APP_A: 11}}),
        ]:
            self.assertIsNone(earliest(items, FLEET, **named))
            self.assertIsNone(latest(items, FLEET, **named))
            ring = find_ring(items, FLEET, **named)
            self.assert_ring(ring, rules(items, FLEET, **named))
            self.assertIs(is_ring(items, FLEET, ring, **named), True)

    def test_the_moments_may_be_behind_all_that_can_be_given(self):
        # A lifetime leaves room behind the last moment.
        items = [contents("a"), contents("ab"), contents("b")]
        fleet = fleet_of([("app", "k", "k", 0)], k=(1, None, None))
        self.assertEqual(latest(items, fleet, start=LONGEST, lives={APP_A: LAST})[2], LONGEST + LAST + 1)

    def test_new_lists(self):
        earliest(CHANGE, FLEET).clear()
        latest(CHANGE, FLEET).clear()
        self.assertEqual(earliest(CHANGE, FLEET), [0, 1, 3, 7])
        items, days = list(CHANGE), {APP_A: 12}
        for call in all_functions(items, FLEET, days=days):
            call()
        self.assertEqual([items, days], [CHANGE, {APP_A: 12}])

    def test_one_moment_less_or_more_is_too_much(self):
        source, many = random.Random(9), [0, 0]
        for _ in range(400):
            fleet, items = small_fleet(source), near_contents(source, source.randint(1, 7))
            named = {"start": source.randint(0, 3)}
            for name in ["days", "lives"]:
                named[name] = {("app", source.choice("abc")): source.randint(10, 60) for _ in range(source.randint(0, 2))}
            found, least, most = rules(items, fleet, **named), earliest(items, fleet, **named), latest(items, fleet, **named)
            self.assertIs(hold_together(found), least is not None)
            self.assertIs(most is None, least is None)
            for number in range(len(items)) if least is not None else []:
                low, high = least[number], most[number]
                self.assertTrue(hold_together([*found, (-1, number, -low)]))
                self.assertFalse(hold_together([*found, (-1, number, 1 - low)]))
                self.assertTrue(hold_together([*found, (number, -1, 10 ** 9 if high is None else high)]))
                self.assertIs(hold_together([*found, (number, -1, 10 ** 9 if high is None else high + 1)]), high is None)
                many[high is None] += 1
        self.assertGreater(min(many), 200)

    def test_against_all_moments(self):
        source, many = random.Random(3), 0
        for _ in range(250):
            fleet = small_fleet(source, most=2)
            items = near_contents(source, source.randint(1, 4))
            start, named = source.randint(0, 2), {}
            if source.random() < 0.5:
                named["days"] = {("app", source.choice("abc")): source.randint(4, 11) for _ in range(2)}
            if source.random() < 0.5:
                named["lives"] = {("app", source.choice("abc")): source.randint(3, 9) for _ in range(2)}
            fitting = []
            for tail in itertools.combinations(range(start + 1, 14), len(items) - 1):
                plan = Plan(list(zip([start, *tail], items)))
                if not is_faultless(plan, fleet) or late(plan, fleet, named.get("days", {})):
                    continue
                if not outlived(plan, fleet, named.get("lives", {})):
                    fitting.append([start, *tail])
            many += self.compare(items, fleet, fitting, {"start": start, **named})
        self.assertGreater(many, 60)

    def compare(self, items, fleet, fitting, named):
        """Compares answers with all lists of moments below 14 that fit, and tells whether there are some."""
        least, most = earliest(items, fleet, **named), latest(items, fleet, **named)
        ring = find_ring(items, fleet, **named)
        for moments in fitting[:20]:
            self.assertIs(satisfies(items, fleet, moments, **named), True)
        if not fitting:
            # Then there is a ring, or all that fits lies behind.
            self.assertIs(ring is None, least is not None)
            self.assertTrue(least is None or least[-1] >= 14)
            return 0
        self.assertIsNone(ring)
        self.assertEqual(least, [min(column) for column in zip(*fitting)])
        for bound, column in zip(most, zip(*fitting)):
            self.assertTrue(bound is None or max(column) <= bound)
        if all(bound is not None and bound < 14 for bound in most):
            self.assertEqual(most, [max(column) for column in zip(*fitting)])
        return 1


class Rings(Case):
    def test_a_ring_of_one_rule(self):
        self.assertEqual(find_ring([contents("a"), contents("b")], FLEET), [(1, 1, 4)])
        self.assertEqual(find_ring([contents("a")], FLEET, days={APP_A: 5}), [(-1, -1, 1)])
        self.assertEqual(find_ring([contents("b"), contents("ab", "b")], FLEET, lives={APP_A: 5}), [(1, 1, 1)])
        self.assertIs(is_ring([contents("a"), contents("b")], FLEET, [(1, 1, 4)]), True)

    def test_a_ring_of_several_rules(self):
        ring = find_ring(CHANGE, FLEET, days={APP_A: 8})
        self.assert_ring(ring, rules(CHANGE, FLEET, days={APP_A: 8}))
        self.assertEqual(sum(wait for _, _, wait in ring), 1)
        # It can begin anywhere, and order matters.
        for at in range(len(ring)):
            self.assertIs(is_ring(CHANGE, FLEET, ring[at:] + ring[:at], days={APP_A: 8}), True)
        for wrong in [ring[::-1], ring[1:], ring[:-1], ring + ring, ring + ring[:1], tuple(ring), iter(ring), set(ring)]:
            self.assertIs(is_ring(CHANGE, FLEET, wrong, days={APP_A: 8}), False)
        self.assertGreater(len(ring), 2)

    def test_no_ring(self):
        for named in [{}, {"start": LONGEST}, {"days": {APP_A: 9}}, {"lives": {APP_A: 8}}]:
            self.assertIsNone(find_ring(CHANGE, FLEET, **named))
        # These go around, but hold.
        for ring in [[(0, -1, 0), (-1, 0, 0)], [(-1, 0, 0), (0, -1, 0)]]:
            self.assertIs(is_ring(CHANGE, FLEET, ring), False)
        ring = [(0, -1, 0), (1, 0, 1), (2, 1, 2), (3, 2, 4), (-1, 3, 3 - 1 - 9)]
        for day, expected in [(9, False), (8, True)]:
            ring[-1] = (-1, 3, 3 - 1 - day)
            self.assertLessEqual(set(ring), set(rules(CHANGE, FLEET, days={APP_A: day})))
            self.assertIs(is_ring(CHANGE, FLEET, ring, days={APP_A: day}), expected)

    def test_a_ring_may_go_through_an_edition_more_than_once(self):
        # Different rules are asked for, not different editions.
        items, named = CHANGE, {"days": {APP_A: 2}}
        one = [(0, -1, 0), (1, 0, 1), (2, 1, 2), (3, 2, 4), (-1, 3, 0)]
        two = [(0, -1, 0), (-1, 0, 0)]
        self.assertLessEqual(set(one + two), set(rules(items, FLEET, **named)))
        self.assertIs(is_ring(items, FLEET, one, **named), True)
        self.assertIs(is_ring(items, FLEET, [*one, *two], **named), False)
        three = [(0, -1, 0), (1, 0, 1), (-1, 1, 0)]
        both = [(0, -1, 0), (1, 0, 1), (2, 1, 2), (-1, 2, 0)]
        self.assertIs(is_ring(items, FLEET, three, **named), True)
        self.assertIs(is_ring(items, FLEET, both, **named), True)
        lives = {"days": {APP_A: 2}, "lives": {APP_A: 1}}
        self.assertIs(is_ring(items, FLEET, [(1, 0, 1), (0, 1, 0), (1, 0, 1), (0, 1, 0)], **lives), False)
        twice = [(0, -1, 0), (1, 0, 1), (0, 1, 0), (-1, 0, 0)]
        self.assertIs(is_ring(items, FLEET, twice, **lives), True)

    def test_the_sum_must_be_positive(self):
        for life, expected in [(7, True), (8, False)]:
            ring = [(1, 0, 1), (2, 1, 2), (3, 2, 4), (0, 3, 3 - 2 - life)]
            self.assertIs(is_ring(CHANGE, FLEET, ring, lives={APP_A: life}), expected)

    def test_any_other_value(self):
        items = [contents("a"), contents("b")]
        for value in [
            *NO_INTEGERS, [], [()], [(1, 1)], [(1, 1, 4, 0)], [(1, 1, 3)], [(1, 1, 5)], [[1, 1, 4]], [(1, 1, 4)] * 2,
            [(True, 1, 4)], [(1, True, 4)], [(1, 1, 4.0)], [(1.0, 1, 4)], [None], ["114"], ((1, 1, 4),), {(1, 1, 4)},
            {(1, 1, 4): 0}, [(0, 0, 1)], [((1, 1), 4)], [(1, 0, 1)], [float("nan")],
        ]:
            self.assertIs(is_ring(items, FLEET, value), False)
        self.assertIs(is_ring([contents("a", "b")], FLEET, [(0, 0, True)]), False)
        self.assertIs(is_ring([contents("a", "b")], FLEET, [(False, 0, 1)]), False)
        self.assertIs(is_ring([contents("a", "b")], FLEET, [(0, 0, 1)]), True)

    def test_against_moments(self):
        source, many = random.Random(7), 0
        for _ in range(1500):
            fleet = small_fleet(source)
            items = near_contents(source, source.randint(1, 7))
            named = {"start": source.randint(0, 3)}
            for name in ["days", "lives"]:
                named[name] = {("app", source.choice("abc")): source.randint(0, 40) for _ in range(source.randint(0, 2))}
            ring, least = find_ring(items, fleet, **named), earliest(items, fleet, **named)
            if ring is None:
                self.assertIs(satisfies(items, fleet, least, **named), True)
                continue
            self.assertIsNone(least)
            self.assert_ring(ring, rules(items, fleet, **named))
            self.assertIs(is_ring(items, fleet, ring, **named), True)
            many += len(ring) > 2
        self.assertGreater(many, 50)


class Satisfying(unittest.TestCase):
    def test_each_rule(self):
        for moments, expected in [
            ([0, 1, 3, 7], True), ([0, 2, 4, 8], True), ([0, 1, 2, 7], False), ([0, 1, 3, 6], False),
            ([1, 2, 4, 8], False), ([0, 0, 3, 7], False), ([0, 1, 3, LAST + 1], True), ([0, 1, 3, 10 ** 50], True),
        ]:
            self.assertIs(satisfies(CHANGE, FLEET, moments), expected)
        self.assertIs(satisfies(CHANGE, FLEET, [1, 2, 4, 8], start=1), True)
        self.assertIs(satisfies(CHANGE, FLEET, [0, 2, 4, 8], days={APP_A: 10}), True)
        self.assertIs(satisfies(CHANGE, FLEET, [0, 2, 4, 8], days={APP_A: 9}), False)
        self.assertIs(satisfies(CHANGE, FLEET, [0, 2, 4, 8], lives={APP_A: 9}), True)
        self.assertIs(satisfies(CHANGE, FLEET, [0, 2, 4, 8], lives={APP_A: 8}), False)
        self.assertIs(satisfies([contents("a", "b")], FLEET, [0]), False)
        self.assertIs(satisfies([contents("a")], FLEET, [0], days={APP_A: LAST}), False)

    def test_any_other_value(self):
        for value in [
            *NO_INTEGERS, [], [0], [0, 1, 3], [0, 1, 3, 7, 8], (0, 1, 3, 7), [0, True, 3, 7], [False, 1, 3, 7],
            [0, 1, 3, 7.0], [0, 1, 3, None], ["0", "1", "3", "7"], [[0, 1, 3, 7]], {0: 0, 1: 1, 2: 3, 3: 7},
            [-1, 1, 3, 7], [0, 1, -3, 7],
        ]:
            self.assertIs(satisfies(CHANGE, FLEET, value), False)
        self.assertIs(satisfies([PLAIN], Fleet(), [True], start=1), False)

    def test_by_name(self):
        self.assertIs(satisfies(contents=CHANGE, fleet=FLEET, moments=[0, 1, 3, 7]), True)
        self.assertIs(is_ring(contents=CHANGE, fleet=FLEET, candidate=[], start=0, days=None, lives=None), False)
        for call in FUNCTIONS:
            self.assertEqual(call(contents=CHANGE, fleet=FLEET, lives={}, days={}, start=0), call(CHANGE, FLEET))


class Plans(unittest.TestCase):
    def test_the_plan(self):
        plan = plan_of(CHANGE, [0, 1, 3, 7])
        self.assertEqual(plan, Plan(list(zip([0, 1, 3, 7], CHANGE))))
        self.assertEqual(plan_of(contents=[PLAIN], moments=[LAST]), Plan([(LAST, PLAIN)]))
        # It does not matter whether the plan has faults.
        self.assertEqual(plan_of([contents("a"), contents("b", "a")], [3, 4]).moments(), [3, 4])

    def test_wrong_moments(self):
        for moments in [*NO_INTEGERS, [], [0], [0, 1, 2], (0, 1), {0: 0, 1: 1}, {0, 1}, "01", range(2)]:
            if moments != [1]:
                self.assertEqual(told_error(plan_of, [PLAIN] * 2, moments), (InvalidPlan, None))
        for moment in NO_MOMENTS:
            self.assertEqual(told_error(plan_of, [PLAIN] * 2, [moment, 5]), (InvalidPlan, 0))
            self.assertEqual(told_error(plan_of, [PLAIN] * 2, [5, moment]), (InvalidPlan, 1))
        self.assertEqual(told_error(plan_of, [PLAIN] * 3, [5, 5, 4]), (InvalidPlan, 1))
        self.assertEqual(told_error(plan_of, [PLAIN] * 3, [5, 6, 6]), (InvalidPlan, 2))

    def test_what_is_given_stays(self):
        items, moments = list(CHANGE), [0, 1, 3, 7]
        plan_of(items, moments).drop()
        self.assertEqual([items, moments], [CHANGE, [0, 1, 3, 7]])


class Guarantee(unittest.TestCase):
    def test_moments_satisfy_the_rules_if_and_only_if_the_plan_is_good(self):
        source, many = random.Random(33), 0
        for _ in range(3000):
            fleet = small_fleet(source)
            items = near_contents(source, source.randint(1, 6))
            moments = list(itertools.accumulate([source.randint(0, 2)] + [source.choice([1, 1, 2, 5, 9, 20]) for _ in items[1:]]))
            start = source.choice([moments[0], moments[0], moments[0], 1])
            days = {("app", source.choice("abc")): source.randint(0, 80) for _ in range(source.randint(0, 2))}
            lives = {("app", source.choice("abc")): source.randint(0, 80) for _ in range(source.randint(0, 2))}
            plan = plan_of(items, moments)
            good = is_faultless(plan, fleet) and moments[0] == start
            good = good and not late(plan, fleet, days) and not outlived(plan, fleet, lives)
            self.assertIs(satisfies(items, fleet, moments, start=start, days=days, lives=lives), good)
            many += good
        self.assertGreater(many, 300)
