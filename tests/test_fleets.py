"""Promises [7] and [8], and the interface of gaplesskeys.fleets."""

import itertools
import random
import unittest

from gaplesskeys.errors import InvalidCall, InvalidKind, InvalidMoment, LimitExceeded, UnknownName
from gaplesskeys.fleets import Fleet, Kind
from tests.helper import LONGEST, NO_INTEGERS, NO_WORDS, fleet_of, raised, small_fleet, told_error

TOO_LONG = [LONGEST + 1, 10 ** 31, 10 ** 40, -1, -LONGEST]
NO_KINDS = [None, True, 3, "k", (3, None, None), [3], {"gap": 3}, Kind, object(), Fleet()]


def told(fleet):
    """All that a fleet tells of itself."""
    kinds = [(name, fleet[name].gap, fleet[name].age, fleet[name].source) for name in fleet.names()]
    return [kinds, fleet.calls(), len(fleet)]


def put(fleet, name, kind):
    fleet[name] = kind


class Kinds(unittest.TestCase):
    def check(self, value, **named):
        error = raised(Kind, **named)
        self.assertIs(type(error), InvalidKind, named)
        self.assertIs(error.value, value, named)

    def test_properties(self):
        for gap, age, source in itertools.product([1, 2, LONGEST], [None, 0, 1, LONGEST], [None, "k", "abcdefgh"]):
            kind = Kind(gap=gap, age=age, source=source)
            self.assertEqual([kind.gap, kind.age, kind.source], [gap, age, source])

    def test_what_is_left_out(self):
        kind = Kind(gap=3)
        self.assertEqual([kind.gap, kind.age, kind.source], [3, None, None])

    def test_by_name_only(self):
        self.assertIsInstance(raised(Kind, 3), TypeError)
        self.assertIsInstance(raised(Kind), TypeError)
        self.assertIsInstance(raised(Kind, age=3), TypeError)

    def test_wrong_gaps(self):
        for value in [0, *TOO_LONG, *NO_INTEGERS]:
            self.check(value, gap=value)
            self.check(value, gap=value, age=value, source="A")

    def test_wrong_ages(self):
        for value in [*TOO_LONG, *NO_INTEGERS]:
            if value is not None:
                self.check(value, gap=1, age=value)
                self.check(value, gap=1, age=value, source="A")

    def test_wrong_sources(self):
        for value in NO_WORDS:
            if value is not None:
                self.check(value, gap=1, source=value)
                self.check(value, gap=1, age=0, source=value)

    def test_gap_and_age_can_be_set(self):
        kind = Kind(gap=3, age=4, source="k")
        kind.gap = LONGEST
        self.assertEqual(kind, Kind(gap=LONGEST, age=4, source="k"))
        kind.age = None
        self.assertEqual(kind, Kind(gap=LONGEST, source="k"))
        kind.gap, kind.age = 1, 0
        self.assertEqual(kind, Kind(gap=1, age=0, source="k"))
        kind.age = LONGEST
        kind.gap += 1
        self.assertEqual([kind.gap, kind.age], [2, LONGEST])

    def test_setting_what_is_wrong_changes_nothing(self):
        kind = Kind(gap=3, age=4, source="k")

        def set_gap(value):
            kind.gap = value

        def set_age(value):
            kind.age = value

        for value in [0, *TOO_LONG, *NO_INTEGERS]:
            error = raised(set_gap, value)
            self.assertIs(type(error), InvalidKind)
            self.assertIs(error.value, value)
        for value in [*TOO_LONG, *NO_INTEGERS]:
            if value is not None:
                error = raised(set_age, value)
                self.assertIs(type(error), InvalidKind)
                self.assertIs(error.value, value)
        self.assertEqual(kind, Kind(gap=3, age=4, source="k"))

    def test_change_returns_the_earlier_value(self):
        kind = Kind(gap=3)
        self.assertEqual([kind.change("gap", 5), kind.change("gap", 6)], [3, 5])
        self.assertIsNone(kind.change("age", 7))
        self.assertEqual(kind.change("age", None), 7)
        self.assertIsNone(kind.change(value=0, name="age"))
        self.assertEqual([kind.gap, kind.age, kind.source], [6, 0, None])

    def test_change_to_what_is_wrong(self):
        kind = Kind(gap=3, age=4, source="k")
        for value in [*TOO_LONG, *NO_INTEGERS]:
            for name in ["gap", "age"]:
                if name == "gap" or value is not None:
                    error = raised(kind.change, name, value)
                    self.assertIs(type(error), InvalidKind)
                    self.assertIs(error.value, value)
        self.assertEqual(told_error(kind.change, "gap", 0), (InvalidKind, 0))
        self.assertEqual(kind, Kind(gap=3, age=4, source="k"))

    def test_change_of_what_is_neither_gap_nor_age(self):
        kind = Kind(gap=3, age=4, source="k")
        for name in [*NO_WORDS, "source", "_gap", "Gap", "gaps", "change", "gap ", b"gap", ["gap"], ("gap",)]:
            for value in [5, 0, True]:
                error = raised(kind.change, name, value)
                self.assertIs(type(error), UnknownName)
                self.assertIs(error.name, name)
        self.assertEqual(kind, Kind(gap=3, age=4, source="k"))

    def test_equal_kinds(self):
        kind = Kind(gap=3, age=4, source="k")
        self.assertIs(kind == Kind(source="k", age=4, gap=3), True)
        for other in [
            Kind(gap=4, age=4, source="k"), Kind(gap=3, age=3, source="k"), Kind(gap=3, source="k"),
            Kind(gap=3, age=4), Kind(gap=3, age=4, source="l"),
        ]:
            self.assertIs(kind == other, False)
            self.assertIs(kind != other, True)
        self.assertIs(Kind(gap=1) == Kind(gap=1, age=0), False)
        for value in [*NO_INTEGERS, *NO_WORDS, (3, 4, "k"), Fleet()]:
            self.assertIs(kind == value, False)


class Keeping(unittest.TestCase):
    def test_a_fleet_without_kinds_and_calls(self):
        self.assertEqual(told(Fleet()), [[], [], 0])
        self.assertIsInstance(raised(Fleet, {}), TypeError)

    def test_kinds_under_their_names(self):
        fleet = Fleet()
        fleet["web"] = Kind(gap=3)
        fleet["app"] = Kind(gap=2, age=1, source="web")
        self.assertEqual(told(fleet), [[("app", 2, 1, "web"), ("web", 3, None, None)], [], 2])
        self.assertEqual(fleet["app"], Kind(gap=2, age=1, source="web"))

    def test_in_the_place_of_one_that_is_there(self):
        fleet = fleet_of(k=(3, None, None), l=(2, 1, "k"))
        fleet["k"] = Kind(gap=5, age=0)
        self.assertEqual(told(fleet)[0], [("k", 5, 0, None), ("l", 2, 1, "k")])
        fleet["l"] = Kind(gap=4)
        fleet["k"] = Kind(gap=1, source="l")
        self.assertEqual(fleet.chain("k"), ["l", "k"])

    def test_copies_are_kept_and_returned(self):
        kind = Kind(gap=3, age=1)
        fleet = Fleet()
        fleet["k"] = kind
        kind.gap = 9
        kind.change("age", 9)
        self.assertEqual(fleet["k"], Kind(gap=3, age=1))
        fleet["k"].gap = 7
        fleet["k"].change("age", None)
        self.assertEqual(fleet["k"], Kind(gap=3, age=1))
        self.assertIsNot(fleet["k"], fleet["k"])
        fleet["l"] = fleet["k"]
        self.assertEqual(fleet["l"], Kind(gap=3, age=1))

    def test_names_that_are_no_words_and_kinds_that_are_none(self):
        fleet = fleet_of(k=(3, None, None))
        for name in NO_WORDS:
            for kind in [Kind(gap=1), Kind(gap=1, source="x"), None]:
                error = raised(put, fleet, name, kind)
                self.assertIs(type(error), InvalidKind)
                self.assertIs(error.value, name)
        for kind in NO_KINDS:
            self.assertEqual(told_error(put, fleet, "l", kind), (InvalidKind, "l"))
            self.assertEqual(told_error(put, fleet, "k", kind), (InvalidKind, "k"))
        self.assertEqual(told(fleet), [[("k", 3, None, None)], [], 1])

    def test_unknown_sources(self):
        fleet = fleet_of(k=(3, None, None))
        self.assertEqual(told_error(put, fleet, "l", Kind(gap=1, source="m")), (UnknownName, "m"))
        self.assertEqual(told_error(put, fleet, "l", Kind(gap=1, source="l")), (UnknownName, "l"))
        self.assertEqual(told_error(put, fleet, "k", Kind(gap=1, source="m")), (UnknownName, "m"))
        self.assertEqual(told(fleet), [[("k", 3, None, None)], [], 1])

    def test_five_kinds(self):
        fleet = fleet_of(**{name: (1, None, None) for name in "edcba"})
        self.assertEqual([len(fleet), fleet.names()], [5, list("abcde")])
        before = told(fleet)
        self.assertEqual(told_error(put, fleet, "f", Kind(gap=1)), (LimitExceeded, 5))
        self.assertEqual(told_error(put, fleet, "f", Kind(gap=1, source="a")), (LimitExceeded, 5))
        self.assertEqual(told_error(put, fleet, "f", Kind(gap=1, source="g")), (UnknownName, "g"))
        self.assertEqual(told_error(put, fleet, "F", Kind(gap=1)), (InvalidKind, "F"))
        self.assertEqual(told_error(put, fleet, "f", None), (InvalidKind, "f"))
        self.assertEqual(told(fleet), before)
        fleet["c"] = Kind(gap=2, source="a")
        self.assertEqual([len(fleet), fleet["c"].gap], [5, 2])

    def test_rings(self):
        fleet = fleet_of(k=(1, None, None), l=(1, None, "k"), m=(1, None, "l"))
        before = told(fleet)
        for name, source in [("k", "k"), ("k", "l"), ("k", "m"), ("l", "l"), ("l", "m"), ("m", "m")]:
            self.assertEqual(told_error(put, fleet, name, Kind(gap=1, source=source)), (InvalidKind, name))
        self.assertEqual(told(fleet), before)
        fleet["m"] = Kind(gap=1, source="k")
        fleet["l"] = Kind(gap=1, source="m")
        self.assertEqual(fleet.chain("l"), ["k", "m", "l"])

    def test_chains_of_four_kinds(self):
        fleet = fleet_of(a=(1, None, None), b=(1, None, "a"), c=(1, None, "b"), d=(1, None, "c"))
        self.assertEqual(fleet.chain("d"), ["a", "b", "c", "d"])
        self.assertEqual(told_error(put, fleet, "e", Kind(gap=1, source="d")), (InvalidKind, "e"))
        fleet["e"] = Kind(gap=1, source="c")
        before = told(fleet)
        self.assertEqual(told_error(put, fleet, "e", Kind(gap=1, source="d")), (InvalidKind, "e"))
        self.assertEqual(told(fleet), before)

    def test_a_chain_that_grows_in_its_midst(self):
        fleet = fleet_of(a=(1, None, None), b=(1, None, "a"), c=(1, None, None), d=(1, None, "c"), e=(1, None, "d"))
        before = told(fleet)
        self.assertEqual(told_error(put, fleet, "c", Kind(gap=1, source="b")), (InvalidKind, "c"))
        self.assertEqual(told(fleet), before)
        fleet["c"] = Kind(gap=1, source="a")
        self.assertEqual(fleet.chain("e"), ["a", "c", "d", "e"])

    def test_unknown_names(self):
        fleet = fleet_of(k=(3, None, None))
        for name in [*NO_WORDS, "l", "kk", ["k"], ("k",), slice(0, 1)]:
            for call in [lambda at: fleet[at], fleet.chain, fleet.lateness]:
                error = raised(call, name)
                self.assertIs(type(error), UnknownName)
                self.assertIs(error.name, name)
            self.assertIs(name in fleet, False)
        self.assertIs("k" in fleet, True)
        self.assertIs("k" in Fleet(), False)

    def test_names_are_a_new_list_in_alphabetical_order(self):
        for names in itertools.permutations(["b", "aa", "a", "ab"]):
            fleet = fleet_of(**{name: (1, None, None) for name in names})
            self.assertEqual(fleet.names(), ["a", "aa", "ab", "b"])
        fleet.names().append("c")
        fleet.names().clear()
        self.assertEqual(fleet.names(), ["a", "aa", "ab", "b"])


class Lateness(unittest.TestCase):
    def test_of_kinds_that_read_the_publisher(self):
        for gap in [1, 2, 3, LONGEST]:
            self.assertEqual(fleet_of(k=(gap, None, None)).lateness("k"), gap)
            for age in [0, 1, 5, LONGEST]:
                self.assertEqual(fleet_of(k=(gap, age, None)).lateness("k"), 2 * gap + age - 1)

    def test_of_chains(self):
        fleet = fleet_of(a=(3, None, None), b=(2, 0, "a"), c=(1, None, "b"), d=(5, 7, "c"))
        self.assertEqual([fleet.lateness(kind=name) for name in "abcd"], [3, 5, 5, 20])
        self.assertEqual([fleet.chain(kind=name) for name in "abcd"], [["a"], ["a", "b"], ["a", "b", "c"], list("abcd")])

    def test_of_the_longest_chain(self):
        fleet = fleet_of(**{name: (LONGEST, LONGEST, source) for name, source in zip("abcd", [None, *"abc"])})
        self.assertEqual([fleet.lateness(name) for name in "abcd"], [at * 3 * LONGEST - 2 * at + 1 for at in [1, 2, 3, 4]])

    def test_no_lateness_is_less_than_that_of_the_source(self):
        source = random.Random(7)
        for _ in range(200):
            fleet = small_fleet(source, most=5)
            for name in fleet.names():
                kind = fleet[name]
                ahead = 1 if kind.source is None else fleet.lateness(kind.source)
                more = kind.gap - 1 if kind.age is None else 2 * kind.gap + kind.age - 2
                self.assertEqual(fleet.lateness(name), ahead + more)
                self.assertGreaterEqual(more, 0)

    def test_follows_a_change_of_a_relay(self):
        fleet = fleet_of(k=(3, None, None), l=(2, None, "k"))
        self.assertEqual(fleet.lateness("l"), 4)
        fleet["k"] = Kind(gap=5)
        self.assertEqual(fleet.lateness("l"), 6)

    def test_chains_are_new_lists(self):
        fleet = fleet_of(k=(3, None, None), l=(2, None, "k"))
        fleet.chain("l").append("m")
        fleet.chain("l").clear()
        self.assertEqual(fleet.chain("l"), ["k", "l"])


class Calls(unittest.TestCase):
    def test_calls_are_numbered_from_0(self):
        fleet = fleet_of(k=(3, None, None), l=(2, None, "k"))
        self.assertEqual(fleet.add_call("app", "k", "l", life=5), 0)
        self.assertEqual(fleet.add_call("web", "l", "l"), 1)
        self.assertEqual(fleet.add_call(server="k", client="k", role="app", life=LONGEST), 2)
        self.assertEqual(fleet.add_call("app", "k", "l", life=5), 3)
        expected = [("app", "k", "l", 5), ("web", "l", "l", 0), ("app", "k", "k", LONGEST), ("app", "k", "l", 5)]
        self.assertEqual(fleet.calls(), expected)
        self.assertTrue(all(type(call) is tuple for call in fleet.calls()))

    def test_the_lifetime_is_passed_by_name(self):
        fleet = fleet_of(k=(3, None, None))
        self.assertIsInstance(raised(fleet.add_call, "app", "k", "k", 5), TypeError)
        self.assertEqual(fleet.calls(), [])

    def test_calls_are_a_new_list(self):
        fleet = fleet_of([("app", "k", "k", 1)], k=(3, None, None))
        fleet.calls().append(("app", "k", "k", 2))
        fleet.calls().clear()
        self.assertEqual(fleet.calls(), [("app", "k", "k", 1)])

    def test_wrong_values_in_their_order(self):
        fleet = fleet_of(k=(3, None, None))
        for value in NO_WORDS:
            for call, expected in [((value, value, value, value), InvalidCall), (("app", value, "no", -1), UnknownName),
                                   (("app", "k", value, -1), UnknownName)]:
                error = raised(fleet.add_call, *call[:3], life=call[3])
                self.assertIs(type(error), expected)
                self.assertIs(vars(error)["value" if expected is InvalidCall else "name"], value)
        self.assertEqual(told_error(fleet.add_call, "app", "l", "m"), (UnknownName, "l"))
        self.assertEqual(told_error(fleet.add_call, "app", "k", "m"), (UnknownName, "m"))
        for life in [*TOO_LONG, *NO_INTEGERS]:
            error = raised(fleet.add_call, "app", "k", "k", life=life)
            self.assertIs(type(error), InvalidMoment)
            self.assertIs(error.value, life)
        self.assertEqual(fleet.calls(), [])

    def test_six_calls(self):
        fleet = fleet_of(k=(3, None, None))
        for number in range(6):
            self.assertEqual(fleet.add_call("app", "k", "k", life=number), number)
        before = told(fleet)
        self.assertEqual(told_error(fleet.add_call, "app", "k", "k"), (LimitExceeded, 6))
        self.assertEqual(told_error(fleet.add_call, "APP", "k", "k"), (InvalidCall, "APP"))
        self.assertEqual(told_error(fleet.add_call, "app", "k", "l"), (UnknownName, "l"))
        self.assertEqual(told_error(fleet.add_call, "app", "k", "k", life=-1), (InvalidMoment, -1))
        self.assertEqual(told(fleet), before)

    def test_calls_stay_when_a_kind_is_replaced(self):
        fleet = fleet_of([("app", "k", "k", 1)], k=(3, None, None))
        fleet["k"] = Kind(gap=1)
        self.assertEqual(fleet.calls(), [("app", "k", "k", 1)])


class Comparing(unittest.TestCase):
    def test_equal_fleets(self):
        calls = [("app", "k", "l", 5), ("web", "l", "l", 0)]
        one = fleet_of(calls, k=(3, None, None), l=(2, 1, None))
        self.assertIs(one == fleet_of(calls, l=(2, 1, None), k=(3, None, None)), True)
        self.assertIs(Fleet() == Fleet(), True)
        for other in [
            fleet_of(calls[::-1], k=(3, None, None), l=(2, 1, None)), fleet_of(calls[:1], k=(3, None, None), l=(2, 1, None)),
            fleet_of(k=(3, None, None), l=(2, 1, None)), fleet_of(calls, k=(3, None, None), l=(2, 0, None)),
            fleet_of(calls, k=(3, None, None), l=(2, 1, "k")), fleet_of(calls, k=(3, None, None), l=(2, 1, None), m=(1, None, None)),
            fleet_of(calls[:1] + [("web", "l", "l", 1)], k=(3, None, None), l=(2, 1, None)), Fleet(),
        ]:
            self.assertIs(one == other, False)
            self.assertIs(one != other, True)
            self.assertIs(other == one, False)

    def test_no_other_value_is_equal(self):
        for fleet in [Fleet(), fleet_of(k=(3, None, None))]:
            for value in [*NO_INTEGERS, *NO_WORDS, {"k": Kind(gap=3)}, ["k"]]:
                self.assertIs(fleet == value, False)
                self.assertIs(fleet != value, True)

    def test_fleets_are_independent(self):
        one, two = Fleet(), Fleet()
        one["k"] = Kind(gap=1)
        one.add_call("app", "k", "k")
        self.assertEqual(told(two), [[], [], 0])


class Examples(unittest.TestCase):
    def test_chain_and_lateness(self):
        fleet = fleet_of(c=(3, None, None), a=(2, 0, "c"), b=(1, None, "a"))
        self.assertEqual(
            [fleet.chain("b"), fleet.lateness("c"), fleet.lateness("a"), fleet.lateness("b")],
            [["c", "a", "b"], 3, 5, 5],
        )

    def test_change(self):
        kind = Kind(gap=3)
        self.assertEqual([kind.change("age", 0), kind.gap, kind.age, kind.source], [None, 3, 0, None])
