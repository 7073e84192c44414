"""Promises [18] to [21] and [3] (f), and the interface of gaplesskeys.losses."""

import itertools
import random
import unittest

from gaplesskeys.calls import refusals
from gaplesskeys.contents import Contents
from gaplesskeys.errors import InvalidContents, InvalidKeys, InvalidMoment, NoKeyLeft, UnknownEdition, UnknownName
from gaplesskeys.fleets import Fleet
from gaplesskeys.losses import (
    core, emergency, exposure, fewest_spares, forgeable, harms, is_ready, unready, with_spares,
)
from tests.helper import (
    LAST, LONGEST, NO_INTEGERS, NO_MOMENTS, NO_WORDS, contents, fleet_of, orderly_plan, plain_plan, plan_of, raised,
    small_fleet, small_plan, told_error,
)
from tests.model import Possible, cut_line, faults_by_words, faults_of, with_newest

CHANGE = [contents(*keys, vouchers="v", needed=1) for keys in ["a", ("ab", "a"), ("ab", "b"), "b"]]
PLAN = plan_of(*zip([0, 1, 3, 7], CHANGE))
FLEET = fleet_of([("app", "k", "k", 2)], k=(3, None, None))
ODD = fleet_of([("app", "k", "k", 0), ("web", "k", "k", 0), ("db", "k", "k", 0)], k=(3, None, None))
SPARE = contents("abcd", vouchers="vwxy", needed=1)
NO_LOST = [
    *[value for value in NO_INTEGERS if value != []], "a", ("a",), {"a"}, {"a": 1}, ["a", "a"], ["a", "b", "a"],
    *[["a", value] for value in NO_WORDS], *[[value] for value in NO_WORDS], [["a"]],
]
NO_SIZES = [*NO_INTEGERS, 0, 4, -1, 9]


def lost_lists(keys, size):
    """All lists of at most so many keys, in their order."""
    for many in range(size + 1):
        yield from map(list, itertools.combinations(sorted(keys), many))


def all_keys(plan):
    return sorted({key for number in range(len(plan)) for key in plan.contents_of(number).all_keys()})


def core_by_words(plan, fleet, number, role):
    moments, keys = plan.moments(), set(plan.contents_of(number).accepted(role))
    for j in range(number):
        for name, _, server, _ in fleet.calls():
            if name == role and moments[j] <= moments[number] + 1 <= moments[j + 1] + fleet.lateness(server) - 2:
                keys &= set(plan.contents_of(j).accepted(role))
    return sorted(keys)


def emergency_by_words(plan, fleet, number, lost):
    """The emergency contents by the words of [19], or the role without a key."""
    old = plan.contents_of(number)
    uses = {}
    for role in old.roles:
        used = old.used(role)
        if used in lost:
            left = sorted(set(core_by_words(plan, fleet, number, role)) - set(lost))
            if not left:
                return role
            used = left[0]
        uses[role] = (sorted(set(old.accepted(role)) - set(lost)), used)
    return Contents(uses, sorted(set(old.vouchers) - set(lost)), needed=old.needed)


def harms_by_words(plan, fleet, number, lost, moment):
    made = emergency_by_words(plan, fleet, number, lost)
    line = cut_line(plan, number, moment, made)
    return without_lost(with_newest(faults_by_words(line, fleet), number + 1), line, fleet, lost)


def without_lost(faults, line, fleet, lost):
    """The faults but refusals of calls with lost keys."""
    roles = [call[0] for call in fleet.calls()]
    return [fault for fault in faults
            if fault[0] == "jump" or line.contents_of(fault[2]).used(roles[fault[1]]) not in lost]


def unready_by_words(plan, fleet, size):
    for number in range(len(plan)):
        for lost in lost_lists(all_keys(plan), size):
            if isinstance(emergency_by_words(plan, fleet, number, lost), str):
                return (number, lost)
            if harms_by_words(plan, fleet, number, lost, plan.moment_of(number) + 1):
                return (number, lost)
    return None


def rich_plan(source, most=4):
    """Some plan with keys to spare, the editions of which differ little."""
    accepted, used, vouchers, moment, editions = "abc", "a", "vwx", source.randint(0, 2), []
    for _ in range(source.randint(1, most)):
        editions.append((moment, contents(accepted, used, vouchers, source.choice([0, 1, 1, 1, 2]))))
        moment += source.choice([1, 2, 6, 12])
        step = source.randrange(5)
        if step == 0:
            accepted = "".join(sorted({*accepted, source.choice("abcde")}))
        elif step == 1:
            used = source.choice(accepted)
        elif step == 2:
            accepted = "".join(key for key in accepted if key == used or source.random() < 0.7)
        elif step == 3:
            vouchers = source.choice(["vwx", "vwxy", "vw", "wxy"])
    return plan_of(*editions)


class Errors(unittest.TestCase):
    def test_roles_of_calls_come_first(self):
        for call, arguments in [
            (core, (9, "db")), (core, (0, "app")), (emergency, (9, 1)), (emergency, (0, [])), (harms, (9, 1, None)),
            (harms, (0, [], 1)), (is_ready, (0,)), (is_ready, (1,)), (unready, (0,)), (unready, (1,)), (fewest_spares, (0,)),
            (fewest_spares, (1,)), (exposure, (9, 1, None)), (exposure, (0, [], 1)),
        ]:
            self.assertEqual(told_error(call, PLAN, ODD, *arguments), (UnknownName, "web"))

    def test_editions_come_next(self):
        for number in [-1, 4, 7, *NO_INTEGERS]:
            for call, arguments in [
                (core, ("app",)), (core, (None,)), (emergency, ([],)), (emergency, (None,)), (harms, ([], 99)),
                (harms, (None, None)), (exposure, ([], 99)), (exposure, (None, None)),
            ]:
                error = raised(call, PLAN, FLEET, number, *arguments)
                self.assertIs(type(error), UnknownEdition)
                self.assertIs(error.number, number)

    def test_lost_keys_come_next(self):
        for lost in NO_LOST:
            for call, arguments in [(emergency, ()), (harms, (9,)), (harms, (None,)), (exposure, (9,)), (exposure, (None,))]:
                error = raised(call, PLAN, FLEET, 1, lost, *arguments)
                self.assertIs(type(error), InvalidKeys)
                self.assertIs(error.value, lost)

    def test_moments_come_next(self):
        for moment in [*NO_MOMENTS, 0, 2, 3]:
            # There is no key left, which is told last.
            for error in [raised(harms, PLAN, FLEET, 2, ["a", "b"], moment), raised(exposure, PLAN, FLEET, 2, ["a"], moment)]:
                self.assertIs(type(error), InvalidMoment)
                self.assertIs(error.value, moment)
        for moment in [4, 7, LAST]:
            self.assertEqual(told_error(harms, PLAN, FLEET, 2, ["a", "b"], moment), (NoKeyLeft, "app"))
            self.assertIsNone(told_error(exposure, PLAN, FLEET, 2, ["a", "b"], moment))

    def test_roles(self):
        for role in [*NO_WORDS, "web", "a"]:
            error = raised(core, PLAN, FLEET, 0, role)
            self.assertIs(type(error), UnknownName)
            self.assertIs(error.name, role)
            for spares in [["z"], None, ["a"], list("cdefghijk")]:
                error = raised(with_spares, PLAN, role, spares)
                self.assertIs(type(error), UnknownName)
                self.assertIs(error.name, role)

    def test_sizes(self):
        for size in NO_SIZES:
            for error in [raised(is_ready, PLAN, FLEET, size), raised(unready, PLAN, FLEET, size),
                          raised(fewest_spares, PLAN, FLEET, size), raised(forgeable, PLAN, size)]:
                self.assertIs(type(error), InvalidKeys)
                self.assertIs(error.value, size)
        for size in [1, 2, 3]:
            for call in [is_ready, unready, fewest_spares]:
                self.assertIsNone(told_error(call, PLAN, FLEET, size))
            self.assertIsNone(told_error(forgeable, PLAN, size))

    def test_spares(self):
        plan = plan_of((0, contents("a", "b", vouchers="v", signers="w")), (1, contents("c")))
        for spares in [*NO_LOST, ["a"], ["b"], ["c"], ["v"], ["w"], ["d", "c"], ["d", "d"], list("defghijka")]:
            error = raised(with_spares, plan, "app", spares)
            self.assertIs(type(error), InvalidKeys)
            self.assertIs(error.value, spares)
        self.assertIsNone(told_error(with_spares, plan, "app", list("defghij")))
        for spares in [list("defghijk"), list("defghijklmnop")]:
            self.assertEqual(told_error(with_spares, plan, "app", spares), (InvalidContents, "roles"))
        # One edition with more keys is enough.
        plan = plan_of((0, contents("a")), (1, contents("abc")))
        self.assertEqual(told_error(with_spares, plan, "app", list("defghi")), (InvalidContents, "roles"))
        self.assertIsNone(told_error(with_spares, plan, "app", list("defgh")))

    def test_nothing_changes(self):
        plan, lost = PLAN.twin(), ["a", "b"]
        for call, arguments in [
            (core, (2, "app")), (emergency, (2, lost)), (emergency, (2, lost[:1])), (harms, (2, lost, 9)), (is_ready, (3,)),
            (harms, (2, lost[:1], 9)), (unready, (3,)), (fewest_spares, (3,)), (exposure, (2, lost, 9)),
        ]:
            raised(call, plan, FLEET, *arguments)
        with_spares(plan, "app", ["c"])
        self.assertEqual([plan, lost], [PLAN, ["a", "b"]])


class Core(unittest.TestCase):
    def test_editions_that_are_still_held(self):
        self.assertEqual([core(PLAN, FLEET, number, "app") for number in range(4)], [["a"], ["a"], ["a", "b"], ["b"]])
        # Edition 0 is held until T(1) + 3 - 2, so that it counts at T(2) + 1 = T(1) + 1 only.
        for moment, expected in [(2, ["a", "b"]), (3, ["a", "b"]), (4, ["a", "b"])]:
            plan = plan_of((0, contents("ab")), (2 - 1, contents("abc")), (moment, contents("abc")))
            self.assertEqual(core(plan, FLEET, 2, "app"), expected if moment < 4 and moment < 2 else ["a", "b", "c"])
        wide = fleet_of([("app", "k", "k", 0)], k=(4, None, None))
        for moment, expected in [(2, "ab"), (3, "abc"), (9, "abc")]:
            plan = plan_of((0, contents("ab")), (1, contents("abc")), (moment, contents("abc")))
            self.assertEqual(core(plan, wide, 2, "app"), list(expected))

    def test_the_edition_just_ahead(self):
        # It is held at T(1) + 1 by servers of a lateness of 3 and more.
        for gap, expected in [(1, "abc"), (2, "abc"), (3, "ab"), (4, "ab")]:
            fleet = fleet_of([("app", "k", "k", 5)], k=(gap, None, None))
            self.assertEqual(core(plan_of((0, contents("ab")), (9, contents("abc"))), fleet, 1, "app"), list(expected))

    def test_server_kinds_of_the_role_only(self):
        one = Contents({"app": (["a"], "a"), "web": (["a"], "a")}, [])
        two = Contents({"app": (["a", "b"], "a"), "web": (["a", "b"], "a")}, [])
        plan = plan_of((0, one), (5, two))
        fleet = fleet_of([("app", "k", "m", 0), ("app", "m", "m", 0), ("web", "m", "k", 0)], k=(9, None, None), m=(1, None, None))
        self.assertEqual([core(plan, fleet, 1, "app"), core(plan, fleet, 1, "web")], [["a", "b"], ["a"]])
        fleet.add_call("app", "m", "k")
        self.assertEqual(core(plan, fleet, 1, "app"), ["a"])
        self.assertEqual(core(plan, Fleet(), 1, "app"), ["a", "b"])

    def test_later_editions_do_not_count(self):
        plan = plan_of((0, contents("ab")), (1, contents("abc")), (2, contents("z")))
        self.assertEqual(core(plan, FLEET, 1, "app"), ["a", "b"])
        self.assertEqual(core(plan, FLEET, 0, "app"), ["a", "b"])

    def test_moments_that_cannot_be_given(self):
        plan = plan_of((LAST - 1, contents("ab")), (LAST, contents("abc")))
        self.assertEqual(core(plan, FLEET, 1, "app"), ["a", "b"])

    def test_by_words(self):
        source = random.Random(18)
        for _ in range(500):
            fleet, plan = small_fleet(source, roles=("app", "web")), small_plan(source, 7, ("app", "web"))
            for number in range(len(plan)):
                for role in ["app", "web"]:
                    self.assertEqual(core(plan, fleet, number, role), core_by_words(plan, fleet, number, role))

    def test_by_name_and_new(self):
        core(plan=PLAN, fleet=FLEET, number=2, role="app").clear()
        self.assertEqual(core(PLAN, FLEET, 2, "app"), ["a", "b"])


class Emergency(unittest.TestCase):
    def test_lost_keys_are_taken_away(self):
        plan = plan_of((0, contents("abcd", "b", vouchers="vwx", needed=2, signers="vy")))
        for lost, expected in [
            ([], contents("abcd", "b", vouchers="vwx", needed=2)),
            (["a"], contents("bcd", "b", vouchers="vwx", needed=2)),
            (["b"], contents("acd", "a", vouchers="vwx", needed=2)),
            (["b", "a"], contents("cd", "c", vouchers="vwx", needed=2)),
            (["w", "c", "z"], contents("abd", "b", vouchers="vx", needed=2)),
            (["v", "w", "x"], contents("abcd", "b", vouchers="", needed=2)),
            (["a", "b", "c"], contents("d", "d", vouchers="vwx", needed=2)),
            (["y"], contents("abcd", "b", vouchers="vwx", needed=2)),
        ]:
            self.assertEqual(emergency(plan, FLEET, 0, lost), expected)
            self.assertEqual(emergency(plan, FLEET, 0, lost[::-1]), expected)

    def test_the_signers_are_the_vouchers_that_are_left(self):
        found = emergency(plan_of((0, contents(vouchers="vw", signers="x"))), FLEET, 0, ["w", "x"])
        self.assertEqual([found.vouchers, found.signers], [["v"], ["v"]])

    def test_a_used_key_that_is_not_accepted(self):
        plan = plan_of((0, contents("ab", "z")))
        self.assertEqual(emergency(plan, FLEET, 0, ["a"]), contents("b", "z"))
        self.assertEqual(emergency(plan, FLEET, 0, ["z"]), contents("ab", "a"))
        self.assertEqual(emergency(plan, FLEET, 0, ["z", "a"]), contents("b", "b"))
        self.assertEqual(told_error(emergency, plan, FLEET, 0, ["z", "a", "b"]), (NoKeyLeft, "app"))
        self.assertEqual(emergency(plan, FLEET, 0, ["a", "b"]), contents("", "z"))

    def test_only_keys_of_the_core_are_used(self):
        # The new key c is not known everywhere yet.
        plan = plan_of((0, contents("bd")), (9, contents("abd", "b")))
        self.assertEqual(emergency(plan, FLEET, 1, ["b"]), contents("ad", "d"))
        self.assertEqual(told_error(emergency, plan, FLEET, 1, ["b", "d"]), (NoKeyLeft, "app"))
        prompt = fleet_of([("app", "k", "k", 2)], k=(1, None, None))
        self.assertEqual(emergency(plan, prompt, 1, ["b"]), contents("ad", "a"))
        self.assertEqual(emergency(plan, Fleet(), 1, ["b"]), contents("ad", "a"))

    def test_the_first_role_without_a_key(self):
        roles = {role: ([key], key) for role, key in [("web", "a"), ("app", "b"), ("db", "a")]}
        plan = plan_of((0, Contents(roles, [])))
        self.assertEqual(told_error(emergency, plan, Fleet(), 0, ["a"]), (NoKeyLeft, "db"))
        self.assertEqual(told_error(emergency, plan, Fleet(), 0, ["a", "b"]), (NoKeyLeft, "app"))
        self.assertEqual(told_error(harms, plan, Fleet(), 0, ["a"], 1), (NoKeyLeft, "db"))

    def test_by_words(self):
        source = random.Random(21)
        for _ in range(300):
            fleet, plan = small_fleet(source, roles=("app", "web")), small_plan(source, 5, ("app", "web"))
            for number in range(len(plan)):
                lost = source.sample("abcvwxz", source.randint(0, 4))
                expected = emergency_by_words(plan, fleet, number, lost)
                if isinstance(expected, str):
                    self.assertEqual(told_error(emergency, plan, fleet, number, lost), (NoKeyLeft, expected))
                else:
                    self.assertEqual(emergency(plan, fleet, number, lost), expected)

    def test_by_name(self):
        self.assertEqual(emergency(plan=PLAN, fleet=FLEET, number=2, lost=["b"]), contents("a", vouchers="v", needed=1))


class Harms(unittest.TestCase):
    def test_calls_with_lost_keys_do_not_count(self):
        # Holders of 0 and 1 go on to use a, which the emergency contents do not accept.
        plan = plan_of((0, contents("ab", "a")), (9, contents("abc", "b")))
        self.assertEqual(harms(plan, FLEET, 1, ["a"], 10), [])
        self.assertEqual(harms(plan, FLEET, 0, ["a"], 1), [])
        # When c is lost too, who still uses it counts no more.
        plan = plan_of((0, contents("abc", "c")), (1, contents("ab", "a")))
        self.assertEqual(harms(plan, FLEET, 1, ["a"], 2), [("call", 0, 0, 2)])
        self.assertEqual(harms(plan, FLEET, 1, ["c", "a"], 2), [])

    def test_other_calls_count(self):
        plan = plan_of((0, contents("ac", "c")), (1, contents("ab", "a")))
        fleet = fleet_of([("app", "k", "l", 0), ("app", "l", "k", 0)], k=(3, None, None), l=(1, None, None))
        # The kind l serves from the first call, k from the second one.
        self.assertEqual(harms(plan, fleet, 1, ["b"], 2), [("call", 0, 0, 2)])
        self.assertEqual(harms(plan, fleet, 1, ["c"], 2), [])
        self.assertEqual(harms(plan, fleet, 1, [], 2), [("call", 0, 0, 2)])
        self.assertEqual(harms(plan, fleet, 1, [], 3), [])

    def test_servers_of_earlier_editions_count(self):
        plan = plan_of((0, contents("b")), (1, contents("a", "z")))
        self.assertEqual(harms(plan, FLEET, 1, [], 2), [
            ("call", 0, 0, 2), ("call", 0, 1, 2), ("call", 0, 2, 0), ("call", 0, 2, 1), ("call", 0, 2, 2),
        ])
        self.assertEqual(harms(plan, FLEET, 1, ["b"], 2), [
            ("call", 0, 1, 2), ("call", 0, 2, 0), ("call", 0, 2, 1), ("call", 0, 2, 2),
        ])

    def test_lockouts_count(self):
        plan = plan_of((0, contents(vouchers="vw", needed=1)), (9, contents(vouchers="vw", needed=2)))
        self.assertEqual(harms(plan, FLEET, 0, ["v"], 1), [])
        self.assertEqual(harms(plan, FLEET, 1, ["v"], 10), [("jump", "k", 1, 2)])
        self.assertEqual(harms(plan, FLEET, 0, ["v", "w"], 1), [("jump", "k", 0, 1)])
        # Who holds 0 jumps until T(1) + 3 - 1.
        for moment, expected in [(11, [("jump", "k", 0, 2), ("jump", "k", 1, 2)]), (12, [("jump", "k", 1, 2)])]:
            self.assertEqual(harms(plan, FLEET, 1, ["v", "w"], moment), expected)

    def test_signers_that_were_no_vouchers_do_not_sign(self):
        plan = plan_of((0, contents(vouchers="v", signers="v", needed=1)), (5, contents(vouchers="w", signers="v", needed=1)))
        self.assertEqual(harms(plan, FLEET, 1, [], 6), [("jump", "k", 0, 2)])
        self.assertEqual(harms(plan, FLEET, 1, [], 8), [])

    def test_an_eighth_edition(self):
        plan = plan_of(*[(n, contents("ab")) for n in range(6)], (6, contents("b", vouchers="v", needed=1)))
        self.assertEqual(harms(plan, FLEET, 6, ["v"], 7), [
            ("call", 0, 3, 7), ("call", 0, 4, 7), ("call", 0, 5, 7), ("jump", "k", 6, 7),
        ])
        self.assertEqual(harms(plan, FLEET, 6, ["v"], 10), [("jump", "k", 6, 7)])
        self.assertEqual(harms(plan, FLEET, 6, ["v", "a"], 7), [("jump", "k", 6, 7)])

    def test_by_words(self):
        source, many = random.Random(22), 0
        for _ in range(500):
            fleet, plan = small_fleet(source, roles=("app", "web")), small_plan(source, 7, ("app", "web"))
            number, lost = source.randrange(len(plan)), source.sample("abcvwxz", source.randint(0, 3))
            moment = plan.moment_of(number) + source.choice([1, 1, 2, 4, 9])
            if isinstance(emergency_by_words(plan, fleet, number, lost), str):
                continue
            expected = harms_by_words(plan, fleet, number, lost, moment)
            self.assertEqual(harms(plan, fleet, number, lost, moment), expected)
            many += bool(expected)
        self.assertGreater(many, 80)

    def test_by_name_and_new(self):
        arguments = {"plan": plan_of((0, contents(needed=1))), "fleet": FLEET, "number": 0, "lost": [], "moment": 1}
        harms(**arguments).clear()
        self.assertEqual(harms(**arguments), [("jump", "k", 0, 1)])


class Ready(unittest.TestCase):
    def test_ordinary_plans(self):
        self.assertEqual(unready(PLAN, FLEET, 1), (0, ["a"]))
        self.assertIs(is_ready(PLAN, FLEET, 1), False)
        plan = plan_of((0, SPARE))
        self.assertIsNone(unready(plan, FLEET, 3))
        for size in [1, 2, 3]:
            self.assertIs(is_ready(plan, FLEET, size), True)

    def test_the_number_of_keys(self):
        for many in range(1, 5):
            plan = plan_of((3, contents("abcd"[:many], vouchers="vwxy", needed=1)), (5, contents("abcde", "b", vouchers="vwxy", needed=1)))
            for size in [1, 2, 3]:
                expected = None if many > size else (0, list("abcd"[:many]))
                self.assertEqual(unready(plan, FLEET, size), expected)

    def test_vouchers(self):
        for needed in range(5):
            plan = plan_of((0, contents("abcdefg", vouchers="vwxy", needed=needed)))
            for size in [1, 2, 3]:
                expected = None if size + needed <= 4 else (0, list("vwxy")[:5 - needed])
                self.assertEqual(unready(plan, FLEET, size), expected)

    def test_the_empty_list(self):
        # The emergency contents are signed by the vouchers, which are too few.
        plan = plan_of((0, SPARE), (9, contents("abcd", vouchers="", needed=1)))
        self.assertEqual(unready(plan, FLEET, 1), (1, []))
        self.assertEqual(unready(plan, Fleet(), 1), None)

    def test_short_lists_come_first(self):
        # Both a and b stand in the core, of which the loss of both is too much; x is needed.
        plan = plan_of((0, contents("ab", vouchers="wx", needed=2)))
        self.assertEqual(unready(plan, FLEET, 3), (0, ["w"]))
        plan = plan_of((0, contents("ab", vouchers="wx", needed=1)))
        self.assertEqual(unready(plan, FLEET, 3), (0, ["a", "b"]))
        plan = plan_of((0, contents("cd", "c", vouchers="xyab", needed=3)))
        self.assertEqual(unready(plan, FLEET, 3), (0, ["a", "b"]))
        self.assertIsNone(unready(plan, FLEET, 1))

    def test_editions_come_before_lists(self):
        plan = plan_of((0, contents("abc", vouchers="", needed=0)), (9, contents("abcd", vouchers="", needed=1)))
        self.assertEqual(unready(plan, FLEET, 3), (0, ["a", "b", "c"]))
        self.assertEqual(unready(plan, FLEET, 2), (1, []))

    def test_harms_of_earlier_editions(self):
        # When c is lost, holders of 0 that use b are refused by the emergency contents.
        plan = plan_of((0, contents("abc", "b")), (1, contents("acde", "c")))
        found = unready(plan, FLEET, 1)
        self.assertEqual(found, (1, []))
        self.assertEqual(harms(plan, FLEET, 1, [], 2), [("call", 0, 0, 2)])
        # When all keys of 0 that are used are lost, none of them counts, so the list is short.
        self.assertEqual(harms(plan, FLEET, 1, ["b"], 2), [])

    def test_all_keys_of_the_plan_are_tried(self):
        for plan, expected in [
            (plan_of((0, contents("a", "b"))), (0, [])), (plan_of((0, contents("b", vouchers="v"))), (0, ["b"])),
            (plan_of((0, contents("bc", vouchers="v", needed=1))), (0, ["v"])),
        ]:
            self.assertEqual(unready(plan, FLEET, 1), expected)
        self.assertEqual(unready(plan_of((0, contents("", "b"))), Fleet(), 1), (0, ["b"]))

    def test_great_numbers(self):
        fleet = fleet_of([("app", "k", "k", LONGEST)], k=(LONGEST, LONGEST, None))
        for moment, expected in [(3 * LONGEST - 3, (1, ["a"])), (3 * LONGEST - 1, (1, ["a"])), (LAST, (1, ["a"]))]:
            plan = plan_of((0, contents("ab", vouchers="vw", needed=1)), (moment, contents("ac", vouchers="vw", needed=1)))
            self.assertEqual(unready(plan, fleet, 1), expected)
        late = 3 * LONGEST - 1
        plans = [plan_of((0, contents("ab", vouchers="vw")), (1, contents("abc", vouchers="vw")), (moment, contents("ac", vouchers="vw")))
                 for moment in [1 + late - 2 + LONGEST - 1, LAST]]
        self.assertEqual([unready(plan, fleet, 1) for plan in plans], [None, None])

    def test_moments_that_cannot_be_given(self):
        plan = plan_of((LAST - 1, contents("ab", vouchers="vw", needed=1)), (LAST, contents("ac", vouchers="vw", needed=1)))
        self.assertEqual(unready(plan, FLEET, 1), (1, ["a"]))
        plan = plan_of(*[(LAST - 6 + n, contents("ab", vouchers="vw", needed=1)) for n in range(7)])
        self.assertEqual([unready(plan, FLEET, size) for size in [1, 2]], [None, (0, ["a", "b"])])
        plan[6] = (LAST, contents("ab", vouchers="vw", needed=3))
        self.assertEqual(unready(plan, FLEET, 2), (0, ["a", "b"]))
        self.assertEqual(unready(plan, FLEET, 1), (6, []))

    def test_by_words(self):
        source, many = random.Random(23), [0, 0]
        for turn in range(400):
            fleet = small_fleet(source)
            plan = [rich_plan, small_plan, rich_plan, orderly_plan][turn % 4](source, most=4)
            for size in [1, 2, 3]:
                expected = unready_by_words(plan, fleet, size)
                self.assertEqual(unready(plan, fleet, size), expected)
                self.assertIs(is_ready(plan, fleet, size), expected is None)
                many[expected is None] += 1
        self.assertGreater(min(many), 20)

    def test_by_all_runs_at_all_later_moments(self):
        source, many = random.Random(24), [0, 0]
        for turn in range(150):
            fleet = small_fleet(source, most=2)
            plan = rich_plan(source, most=3)
            if [fault for fault in faults_of(Possible(plan, fleet, 45), fleet) if fault[0] == "jump"]:
                continue
            ready = True
            for number in range(len(plan)):
                for lost in lost_lists(all_keys(plan), 1):
                    made = emergency_by_words(plan, fleet, number, lost)
                    ready = ready and not isinstance(made, str)
                    for delay in [1, 2, 5] if ready else []:
                        line = cut_line(plan, number, plan.moment_of(number) + delay, made)
                        faults = with_newest(faults_of(Possible(line, fleet, line.moment_of(number + 1) + 20), fleet), number + 1)
                        ready = ready and not without_lost(faults, line, fleet, lost)
            self.assertIs(is_ready(plan, fleet, 1), ready)
            many[ready] += 1
        self.assertGreater(min(many), 3)

    def test_plans_with_small_cores_are_not_ready(self):
        source, many = random.Random(25), 0
        for _ in range(1500):
            fleet, plan = small_fleet(source), orderly_plan(source)
            if not fleet.calls() or list(refusals(plan, fleet)):
                continue
            for size in [1, 2, 3]:
                if min(len(core(plan, fleet, number, "app")) for number in range(len(plan))) <= size:
                    self.assertIs(is_ready(plan, fleet, size), False)
                    many += 1
        self.assertGreater(many, 100)

    def test_by_name_and_new(self):
        self.assertIs(is_ready(plan=PLAN, fleet=FLEET, size=1), False)
        found = unready(plan=PLAN, fleet=FLEET, size=1)
        self.assertEqual([type(found), type(found[0]), type(found[1])], [tuple, int, list])
        found[1].clear()
        self.assertEqual(unready(PLAN, FLEET, 1), (0, ["a"]))
        plan = plan_of((0, contents(needed=1)))
        unready(plan, FLEET, 1)[1].append("a")
        self.assertEqual(unready(plan, FLEET, 1), (0, []))


class Spares(unittest.TestCase):
    def test_fewest(self):
        self.assertEqual([fewest_spares(PLAN, FLEET, size) for size in [1, 2, 3]], [{"app": 1}, {"app": 2}, {"app": 3}])
        plan = plan_of((0, contents("ab")), (1, contents("abc")), (2, contents("abcd")))
        self.assertEqual([fewest_spares(plan, FLEET, size) for size in [1, 2, 3]], [{"app": 0}, {"app": 1}, {"app": 2}])
        self.assertEqual(fewest_spares(plan_of((0, SPARE)), FLEET, 3), {"app": 0})
        self.assertEqual(fewest_spares(plan_of((0, contents("", "a"))), FLEET, 3), {"app": 4})
        # The accepted keys of the two have nothing in common.
        self.assertEqual(fewest_spares(plan_of((0, contents("abc")), (9, contents("def"))), FLEET, 1), {"app": 2})
        self.assertEqual(fewest_spares(plan_of((0, contents("abc")), (9, contents("def"))), Fleet(), 1), {"app": 0})

    def test_all_roles_in_alphabetical_order(self):
        one = Contents({"web": (["a", "b"], "a"), "app": (["a", "b", "c"], "a"), "db": (["a"], "a")}, [])
        found = fewest_spares(plan_of((0, one)), Fleet(), 2)
        self.assertEqual(list(found.items()), [("app", 0), ("db", 2), ("web", 1)])
        self.assertIs(type(found), dict)
        found.clear()
        self.assertEqual(len(fewest_spares(plan_of((0, one)), Fleet(), 2)), 3)

    def test_whether_that_is_possible_or_not(self):
        plan = plan_of((0, contents("abcdefgh")), (9, contents("stuvwxyz")))
        self.assertEqual(fewest_spares(plan, FLEET, 3), {"app": 4})
        self.assertEqual(told_error(with_spares, plan, "app", ["i"]), (InvalidContents, "roles"))

    def test_with_spares(self):
        self.assertEqual(with_spares(PLAN, "app", ["z", "c"]), plan_of(
            (0, contents("acz", vouchers="v", needed=1)), (1, contents("abcz", vouchers="v", needed=1)),
            (3, contents("abcz", "b", vouchers="v", needed=1)), (7, contents("bcz", vouchers="v", needed=1)),
        ))
        self.assertEqual(with_spares(plan=PLAN, role="app", spares=[]), PLAN)
        plan = PLAN.twin()
        with_spares(plan, "app", []).drop()
        with_spares(plan, "app", ["c"]).drop()
        self.assertEqual(plan, PLAN)

    def test_one_role_only(self):
        one = Contents({"app": (["a"], "a"), "web": (["b"], "b")}, ["v"], needed=2, signers=["w"])
        self.assertEqual(with_spares(plan_of((3, one)), "web", ["c"]), plan_of((3, one.changed("web", accepted=["b", "c"]))))

    def test_the_number_is_exact(self):
        source, many = random.Random(26), 0
        for _ in range(400):
            fleet, plan = small_fleet(source, roles=("app", "web")), small_plan(source, 5, ("app", "web"))
            for size in [1, 2, 3]:
                for role, spares in fewest_spares(plan, fleet, size).items():
                    for number in {spares, max(0, spares - 1)}:
                        other = with_spares(plan, role, list("defgh")[:number])
                        least = min(len(core(other, fleet, n, role)) for n in range(len(other)))
                        self.assertIs(least > size, number == spares)
                    many += spares > 0
        self.assertGreater(many, 100)


class Forgeable(unittest.TestCase):
    def test_editions(self):
        plan = plan_of(*[(n, contents(vouchers=vouchers, needed=needed, signers="z")) for n, (vouchers, needed) in enumerate(
            [("", 0), ("", 1), ("v", 1), ("vw", 3), ("vwx", 2), ("vwx", 3), ("vwxy", 4)])])
        self.assertEqual([forgeable(plan, size) for size in [1, 2, 3]], [[0, 2], [0, 2, 4], [0, 2, 4, 5]])
        self.assertEqual(forgeable(plan=plan.cut(1), size=3), [0])

    def test_new(self):
        forgeable(PLAN, 1).clear()
        self.assertEqual(forgeable(PLAN, 1), [0, 1, 2, 3])


class Exposure(unittest.TestCase):
    def test_the_last_moment(self):
        # Edition n is held until the emergency's moment + 3 - 2.
        for moment in [4, 5, 9, LAST]:
            self.assertEqual(exposure(PLAN, FLEET, 2, ["a"], moment), moment + 1)
            self.assertEqual(exposure(PLAN, FLEET, 2, ["z", "b"], moment), moment + 1)
            self.assertEqual(exposure(PLAN, FLEET, 1, ["b", "a"], moment), moment + 1)
        # Then a is accepted by the editions ahead alone.
        self.assertEqual(exposure(PLAN, FLEET, 3, ["a"], 8), 7 + 1)
        self.assertEqual(exposure(PLAN, FLEET, 3, ["a"], LAST), 7 + 1)
        self.assertEqual(exposure(PLAN, FLEET, 3, ["a", "b"], 20), 20 + 1)

    def test_no_service_accepts_one(self):
        for lost in [[], ["z"], ["v"], ["b"]]:
            self.assertIsNone(exposure(PLAN, FLEET, 0, lost, 4))
        # There is no server kind.
        self.assertIsNone(exposure(PLAN, Fleet(), 2, ["a"], 4))
        # A key that is only used is accepted nowhere.
        self.assertIsNone(exposure(plan_of((0, contents("a", "b"))), FLEET, 0, ["b"], 4))

    def test_server_kinds_of_the_role(self):
        one = Contents({"app": (["a"], "a"), "web": (["b"], "b")}, [])
        fleet = fleet_of([("app", "l", "k", 9), ("web", "k", "l", 9)], k=(3, None, None), l=(4, 2, "k"))
        plan = plan_of((0, one))
        for lost, lateness in [(["a"], 3), (["b"], 11), (["a", "b"], 11)]:
            self.assertEqual(exposure(plan, fleet, 0, lost, 5), 5 + lateness - 2)
        fleet.add_call("app", "k", "l")
        self.assertEqual(exposure(plan, fleet, 0, ["a"], 5), 5 + 11 - 2)

    def test_an_earlier_edition_with_a_later_server(self):
        one = Contents({"app": (["a"], "a"), "web": (["b"], "b")}, [])
        two = Contents({"app": (["c"], "c"), "web": (["b"], "b")}, [])
        fleet = fleet_of([("app", "k", "l", 0), ("web", "k", "k", 0)], k=(1, None, None), l=(50, None, None))
        self.assertEqual(exposure(plan_of((0, one), (9, two)), fleet, 1, ["a", "b"], 10), 9 + 50 - 2)
        self.assertEqual(exposure(plan_of((0, one), (9, two)), fleet, 1, ["b", "a"], 70), 70 - 1)

    def test_emergency_contents_need_not_exist(self):
        self.assertEqual(told_error(emergency, PLAN, FLEET, 1, ["a", "b"]), (NoKeyLeft, "app"))
        self.assertEqual(exposure(PLAN, FLEET, 1, ["a", "b"], 5), 6)

    def test_great_numbers(self):
        fleet = fleet_of([("app", "k", "k", 0)], k=(LONGEST, LONGEST, None))
        self.assertEqual(exposure(plan=PLAN, fleet=fleet, number=0, lost=["a"], moment=LAST), LAST + 3 * LONGEST - 3)

    def test_by_all_runs(self):
        source, many = random.Random(27), 0
        for _ in range(200):
            fleet, plan = small_fleet(source, most=2), small_plan(source, most=4)
            number, lost = source.randrange(len(plan)), source.sample("abc", source.randint(1, 2))
            moment = plan.moment_of(number) + source.choice([1, 2, 5])
            # What is published does not accept them.
            line = cut_line(plan, number, moment, contents("z"))
            possible = Possible(line, fleet, moment + 30)
            if [fault for fault in faults_of(possible, fleet) if fault[0] == "jump" and fault[3] <= number]:
                continue
            servers = {server for _, _, server, _ in fleet.calls()}
            moments = [at for kind in servers for at in range(plan.moment_of(0), moment + 31)
                       if any(set(line.contents_of(n).accepted("app")) & set(lost) for n in possible.held(kind, at))]
            self.assertEqual(exposure(plan, fleet, number, lost, moment), max(moments, default=None))
            many += bool(moments)
        self.assertGreater(many, 30)
