"""Promises [22], [23] and [3] (g), and the interface of gaplesskeys.fewest."""

import itertools
import random
import unittest

from gaplesskeys.calls import is_faultless
from gaplesskeys.contents import Contents
from gaplesskeys.earliest import earliest, plan_of, rules
from gaplesskeys.errors import InvalidContents, InvalidKeys, UnknownName
from gaplesskeys.fewest import KeyLimit, are_labels, fewest, get_along, labels
from gaplesskeys.fleets import Fleet
from gaplesskeys.undoing import is_undoable
from tests.helper import (
    LONGEST, NO_CONTENTS, NO_INTEGERS, contents, fleet_of, raised, small_contents, small_fleet, told_error,
)

C0, C1, C2, C3 = [contents(*keys, vouchers="v", needed=1) for keys in ["a", ("ab", "a"), ("ab", "b"), "b"]]
FLEET = fleet_of([("app", "k", "k", 2)], k=(3, None, None))
ODD = fleet_of([("app", "k", "k", 0), ("web", "k", "k", 0), ("db", "k", "k", 0)], k=(3, None, None))
# All learn an edition at its moment, and use credentials at once.
PROMPT = fleet_of([("app", "k", "k", 0)], k=(1, None, None))
WEB = contents(role="web")
TWO = Contents({"app": (["a"], "a"), "web": (["a"], "a")}, [])
# It accepts its used key nowhere.
BROKEN = contents("a", "b", vouchers="v", needed=1)


def signed(vouchers, signers, needed=1):
    return contents(vouchers=vouchers, signers=signers, needed=needed)


def fits(items, fleet):
    """Whether no rule of some contents is of the form (n, n, wait)."""
    return all(later != earlier for later, earlier, _ in rules(items, fleet))


def along(one, two, fleet, undoable=False):
    """Whether two contents get along by the words of [22]."""
    if not fits([one, two], fleet):
        return False
    late = any(fleet.lateness(kind) > 1 for kind in fleet.names())
    return not undoable or fits([two, one], fleet) and (one.takes(one) or not late)


def distance(first, goal, menu, fleet, undoable=False):
    """The least number of steps by a search through all paths, which need no contents twice."""
    if first == goal:
        return 0 if fits([first], fleet) else None
    for many in range(len(menu) + 1):
        for inner in itertools.permutations(menu, many):
            row = [first, *inner, goal]
            if all(along(one, two, fleet, undoable) for one, two in zip(row, row[1:])):
                return len(row) - 1
    return None


def some_menu(source, most=4):
    """First and last contents and a menu, of few kinds, so that some are equal."""
    pool = [C0, C1, C2, C3, C1, C2, BROKEN, *[small_contents(source, ("app",)) for _ in range(2)]]
    ends = [C0, C3] if source.random() < 0.5 else [source.choice(pool), source.choice(pool)]
    return *ends, [source.choice(pool) for _ in range(source.randint(0, most))]


class Errors(unittest.TestCase):
    def test_wrong_menus(self):
        for menu in [*[value for value in NO_INTEGERS if value != []], (C1,), C1, {0: C1}, [C1] * 31, [WEB], [C1, WEB], [TWO],
                     *[[value] for value in NO_CONTENTS], *[[C1, value, C2] for value in NO_CONTENTS]]:
            for call in [fewest, labels]:
                self.assertEqual(told_error(call, C0, C3, menu, ODD), (InvalidContents, None))
            self.assertEqual(told_error(are_labels, C0, C3, menu, ODD, None), (InvalidContents, None))
        for call in [fewest, labels]:
            self.assertIsNone(told_error(call, C0, C3, [C1] * 30, FLEET))

    def test_wrong_ends(self):
        for value in [*NO_CONTENTS, WEB, TWO]:
            for first, last in [(value, C3), (C0, value)]:
                self.assertEqual(told_error(get_along, first, last, ODD), (InvalidContents, None))
                for menu in [[], [C1], None]:
                    self.assertEqual(told_error(fewest, first, last, menu, ODD), (InvalidContents, None))
                    self.assertEqual(told_error(labels, first, last, menu, ODD), (InvalidContents, None))
                    self.assertEqual(told_error(are_labels, first, last, menu, ODD, []), (InvalidContents, None))
        # The menu must have the roles of first.
        self.assertEqual(told_error(fewest, WEB, WEB, [C1], FLEET), (InvalidContents, None))

    def test_roles_of_calls(self):
        def never(_):
            raise AssertionError

        self.assertEqual(told_error(get_along, C0, C1, ODD), (UnknownName, "web"))
        for call in [fewest, labels]:
            self.assertEqual(told_error(call, C0, C1, [C1], ODD, allowed=never), (UnknownName, "web"))
        self.assertEqual(told_error(are_labels, C0, C1, [C1], ODD, None, allowed=never), (UnknownName, "web"))

    def test_keyword_only(self):
        for call, arguments in [(get_along, (C0, C1, FLEET)), (fewest, (C0, C1, [], FLEET)), (labels, (C0, C1, [], FLEET)),
                                (are_labels, (C0, C1, [], FLEET, []))]:
            with self.assertRaises(TypeError):
                call(*arguments, True)

    def test_what_allowed_raises_goes_on(self):
        def broken(_):
            raise KeyError("why")

        for call, arguments in [(fewest, ()), (labels, ()), (are_labels, ([0, None, 1],))]:
            self.assertIs(type(raised(call, C0, C1, [C1], FLEET, *arguments, allowed=broken)), KeyError)


class GetAlong(unittest.TestCase):
    def test_calls(self):
        self.assertEqual([get_along(C0, other, FLEET) for other in [C0, C1, C2, C3]], [True, True, False, False])
        self.assertEqual([get_along(other, C0, FLEET) for other in [C0, C1, C2, C3]], [True, True, False, False])
        self.assertEqual([get_along(C2, other, FLEET) for other in [C0, C1, C2, C3]], [False, True, True, True])

    def test_prompt_services(self):
        # Nobody holds what was published before, so that only the editions themselves count.
        self.assertIs(get_along(C0, C3, PROMPT), True)
        for fleet in [fleet_of([("app", "k", "k", 1)], k=(1, None, None)), fleet_of([("app", "k", "k", 0)], k=(2, None, None))]:
            self.assertIs(get_along(C0, C3, fleet), False)
        # Late servers do not know the new key, late clients use the old one.
        for call, expected in [(("app", "l", "k", 0), [True, False]), (("app", "k", "l", 0), [False, True])]:
            fleet = fleet_of([call], k=(1, None, None), l=(2, None, None))
            self.assertEqual([get_along(C0, C2, fleet), get_along(C1, C3, fleet)], expected)

    def test_contents_that_refuse_themselves(self):
        for fleet in [FLEET, PROMPT]:
            for other in [C0, C1, BROKEN]:
                self.assertIs(get_along(BROKEN, other, fleet), False)
                self.assertIs(get_along(other, BROKEN, fleet), False)
        self.assertIs(get_along(BROKEN, BROKEN, Fleet()), True)

    def test_lockouts(self):
        one, two = signed("v", "v"), signed("w", "w")
        for fleet in [FLEET, PROMPT, fleet_of(k=(1, None, None))]:
            self.assertIs(get_along(one, two, fleet), False)
            self.assertIs(get_along(one, signed("w", "v"), fleet), True)
        self.assertIs(get_along(one, two, Fleet()), True)
        # That contents take themselves is not asked for.
        self.assertIs(get_along(signed("v", "w"), signed("w", "v"), FLEET), True)

    def test_undoably(self):
        self.assertIs(get_along(C0, C1, FLEET, undoable=True), True)
        one, two = signed("v", "v"), signed("w", "v")
        # The second contents do not take the first ones.
        self.assertEqual([get_along(one, two, FLEET, undoable=value) for value in [False, True]], [True, False])
        # The first ones do not take themselves.
        one, two = signed("v", "w"), signed("w", "v")
        self.assertEqual([get_along(one, two, FLEET, undoable=value) for value in [False, True]], [True, False])
        self.assertIs(get_along(one, two, PROMPT, undoable=True), True)
        self.assertIs(get_along(one, two, fleet_of(k=(1, None, None), l=(1, 0, None)), undoable=True), True)
        self.assertIs(get_along(one, two, fleet_of(k=(1, None, None), l=(1, 1, None)), undoable=True), False)
        self.assertIs(get_along(one, two, fleet_of(k=(1, None, None), l=(2, None, "k")), undoable=True), False)
        # It is enough that the first ones take themselves.
        one, two = signed("v", "v"), signed("v", "vw", needed=0).revouched(vouchers=["x"])
        self.assertIs(get_along(one, two, FLEET, undoable=True), True)

    def test_any_truth(self):
        one, two = signed("v", "v"), signed("w", "v")
        for value in [1, "x", [0], KeyLimit(0)]:
            self.assertIs(get_along(one, two, FLEET, undoable=value), False)
        for value in [0, "", [], None]:
            self.assertIs(get_along(one, two, FLEET, undoable=value), True)

    def test_great_numbers(self):
        fleet = fleet_of([("app", "k", "k", LONGEST)], k=(LONGEST, LONGEST, None))
        self.assertEqual([get_along(C0, other, fleet) for other in [C0, C1, C2, C3]], [True, True, False, False])
        fleet = fleet_of([("app", "k", "k", LONGEST)], k=(1, None, None))
        self.assertEqual([get_along(C0, other, fleet) for other in [C0, C1, C2, C3]], [True, True, True, False])

    def test_by_words(self):
        source, many = random.Random(1), [0, 0]
        for _ in range(1500):
            fleet = small_fleet(source, roles=("app", "web"))
            one, two = [small_contents(source, ("app", "web")) for _ in range(2)]
            two = one if source.random() < 0.2 else two
            for undoable in [False, True]:
                self.assertIs(get_along(one, two, fleet, undoable=undoable), along(one, two, fleet, undoable))
                many[undoable] += along(one, two, fleet, undoable)
        self.assertGreater(min(many), 30)

    def test_with_some_moments_there_is_no_fault_between_them(self):
        source, many = random.Random(2), [0, 0]
        for _ in range(800):
            fleet, one, two = small_fleet(source), small_contents(source, ("app",)), small_contents(source, ("app",))
            # The two follow each other at once or far behind each other, which is all the same.
            found = [is_faultless(plan_of([one, two], [0, moment]), fleet) for moment in [1, 1000]]
            self.assertEqual(found, [get_along(one, two, fleet)] * 2)
            if found[0]:
                undoable = is_undoable(plan_of([one, two], [0, 1000]), fleet)
                self.assertIs(get_along(one, two, fleet, undoable=True), undoable)
                many[undoable] += 1
        self.assertGreater(min(many), 30)

    def test_by_name(self):
        self.assertIs(get_along(first=C0, last=C1, fleet=FLEET, undoable=False), True)


class Limits(unittest.TestCase):
    def test_how_many_keys_are_accepted(self):
        one = Contents({"app": (["a", "b"], "z"), "web": (["a", "b", "c"], "a")}, list("abcd"))
        self.assertEqual([KeyLimit(most)(one) for most in range(9)], [False] * 3 + [True] * 6)
        self.assertEqual([KeyLimit(most)(contents("", "a")) for most in range(2)], [True, True])
        self.assertIs(KeyLimit(8)(contents("abcdefgh")), True)
        self.assertIs(KeyLimit(7)(contents("abcdefgh")), False)

    def test_most(self):
        for most in range(9):
            self.assertEqual(KeyLimit(most).most, most)
        self.assertEqual(KeyLimit(most=3).most, 3)

    def test_wrong_numbers(self):
        for most in [*NO_INTEGERS, -1, 9]:
            error = raised(KeyLimit, most)
            self.assertIs(type(error), InvalidKeys)
            self.assertIs(error.value, most)

    def test_as_allowed(self):
        middle = [contents("abc", "a", vouchers="v", needed=1), C1, C2]
        self.assertEqual(labels(C0, C3, middle, FLEET, allowed=KeyLimit(2)), [0, None, 1, 2, 3])
        self.assertEqual(labels(C0, C3, middle, FLEET, allowed=KeyLimit(3)), [0, 1, 1, 2, 3])
        # The first and the last contents are always allowed.
        self.assertEqual(labels(C0, C3, middle, FLEET, allowed=KeyLimit(0)), [0, None, None, None, None])
        self.assertEqual(labels(C0, C1, middle, FLEET, allowed=KeyLimit(0)), [0, None, None, None, 1])


class Paths(unittest.TestCase):
    def test_fewest(self):
        for menu in [[C2, C1], [C1, C2], [C1, C1, C2, C2], [C0, C3, C2, C1, BROKEN]]:
            self.assertEqual(fewest(C0, C3, menu, FLEET), [C0, C1, C2, C3])
        self.assertEqual(fewest(C0, C3, [C1, C2], PROMPT), [C0, C3])
        self.assertEqual(fewest(C0, C1, [C2], FLEET), [C0, C1])
        for menu in [[], [C1], [C2], [C0, C3], [BROKEN]]:
            self.assertIsNone(fewest(C0, C3, menu, FLEET))

    def test_equal_ends(self):
        for menu in [[], [C0], [C1, C0]]:
            self.assertEqual(fewest(C0, contents("a", vouchers="v", needed=1), menu, FLEET), [C0])
            self.assertIsNone(fewest(BROKEN, BROKEN, menu, FLEET))
            self.assertEqual(fewest(BROKEN, BROKEN, menu, Fleet()), [BROKEN])
        # A path of one item asks nothing of two that follow each other.
        odd = signed("v", "w")
        self.assertIs(get_along(odd, odd, FLEET), False)
        self.assertEqual(fewest(odd, odd, [], FLEET), [odd])
        self.assertEqual(fewest(odd, odd, [], FLEET, undoable=True), [odd])

    def test_undoably(self):
        one, two, three, four = signed("v", "v"), signed("w", "v"), signed("vw", "v"), signed("vw", "vw")
        self.assertEqual(fewest(one, two, [three, four], FLEET), [one, two])
        self.assertEqual(fewest(one, two, [three, four], FLEET, undoable=True), [one, four, two])
        self.assertIsNone(fewest(one, two, [three], FLEET, undoable=True))
        self.assertEqual(labels(one, two, [three, four], FLEET), [0, 1, 1, 1])
        self.assertEqual(labels(one, two, [three, four], FLEET, undoable=True), [0, 1, 1, 2])
        self.assertEqual(labels(one, two, [three], FLEET, undoable=True), [0, 1, None])

    def test_allowed(self):
        seen = []

        def allowed(item):
            seen.append(item)
            return item != C1

        self.assertIsNone(fewest(C0, C3, [C1, C2], FLEET, allowed=allowed))
        self.assertEqual(seen, [C1, C2])
        other = contents("ab", "a", vouchers="v", needed=1, signers="vw")
        self.assertEqual(fewest(C0, C3, [C1, C2, other], FLEET, allowed=allowed), [C0, other, C2, C3])
        for value, expected in [(0, None), ("", None), ([], None), (1, 4), ([0], 4)]:
            found = fewest(C0, C3, [C1, C2], FLEET, allowed=lambda item, value=value: value)
            self.assertEqual(found and len(found), expected)
        self.assertEqual(len(fewest(C0, C3, [C1, C2], FLEET, allowed=None)), 4)

    def test_the_menu_is_not_changed_and_what_is_returned_is_new(self):
        menu = [C2, C1]
        fewest(C0, C3, menu, FLEET).clear()
        labels(C0, C3, menu, FLEET).clear()
        are_labels(C0, C3, menu, FLEET, [0, 2, 1, 3])
        self.assertEqual(menu, [C2, C1])
        fewest(C0, C0, menu, FLEET).clear()
        self.assertEqual(fewest(C0, C0, menu, FLEET), [C0])

    def test_against_all_paths(self):
        source, many = random.Random(12), 0
        for _ in range(400):
            fleet = small_fleet(source, most=2)
            first, last, menu = some_menu(source)
            for undoable in [False, True]:
                row = [first, *menu, last]
                found = labels(first, last, menu, fleet, undoable=undoable)
                self.assertEqual(found, [distance(first, goal, menu, fleet, undoable) for goal in row])
                path = fewest(first, last, menu, fleet, undoable=undoable)
                if path is None:
                    self.assertIsNone(found[-1])
                    continue
                self.assertEqual(len(path), found[-1] + 1)
                self.assertEqual([path[0], path[-1]], [first, last])
                self.assertTrue(all(item in menu for item in path[1:-1]))
                self.assertTrue(all(along(one, two, fleet, undoable) for one, two in zip(path, path[1:])))
                self.assertIsNotNone(earliest(path, fleet))
                many += len(path) > 2
        self.assertGreater(many, 30)

    def test_a_long_path(self):
        # Each key is accepted a step ahead of being used.
        steps = [C0]
        for old, new in zip("abcdefghi", "bcdefghij"):
            steps += [contents(old + new, old, vouchers="v", needed=1), contents(old + new, new, vouchers="v", needed=1)]
        steps.append(contents("j", vouchers="v", needed=1))
        menu = steps[1:-1][::-1] + [BROKEN] * 12
        self.assertEqual(len(menu), 30)
        self.assertEqual(fewest(C0, steps[-1], menu, FLEET), steps)
        self.assertEqual(labels(C0, steps[-1], menu, FLEET), [0, *range(18, 0, -1), *[None] * 12, 19])
        self.assertIs(are_labels(C0, steps[-1], menu, FLEET, labels(C0, steps[-1], menu, FLEET)), True)

    def test_by_name(self):
        self.assertEqual(fewest(first=C0, last=C1, menu=[], fleet=FLEET, undoable=False, allowed=None), [C0, C1])
        self.assertEqual(labels(first=C0, last=C1, menu=[], fleet=FLEET, undoable=False, allowed=None), [0, 1])
        self.assertIs(are_labels(first=C0, last=C1, menu=[], fleet=FLEET, candidate=[0, 1], undoable=False, allowed=None), True)


class Labels(unittest.TestCase):
    def test_ordinary_ones(self):
        self.assertEqual(labels(C0, C3, [C2, C1], FLEET), [0, 2, 1, 3])
        self.assertEqual(labels(C0, C3, [C2, C1, C2, C0, C3, BROKEN], FLEET), [0, 2, 1, 2, 0, 3, None, 3])
        self.assertEqual(labels(C0, C3, [], FLEET), [0, None])
        self.assertEqual(labels(C0, C0, [C1], FLEET), [0, 1, 0])

    def test_no_path_begins_with_contents_that_refuse_themselves(self):
        self.assertEqual(labels(BROKEN, BROKEN, [BROKEN, C0], FLEET), [None] * 4)
        self.assertEqual(labels(BROKEN, C0, [], FLEET), [None, None])

    def test_contents_that_are_not_allowed(self):
        allowed = KeyLimit(1)
        self.assertEqual(labels(C0, C1, [C1, C0, C2], FLEET, allowed=allowed), [0, None, 0, None, 1])
        self.assertEqual(labels(C1, C1, [C1, C0], FLEET, allowed=allowed), [0, None, 1, 0])

    def test_kinds_of_values(self):
        self.assertEqual([type(label) for label in labels(C0, C3, [C2, C1], FLEET)], [int] * 4)


class Accepted(unittest.TestCase):
    def test_the_labels_themselves(self):
        self.assertIs(are_labels(C0, C3, [C2, C1], FLEET, [0, 2, 1, 3]), True)
        self.assertIs(are_labels(C0, C3, [], FLEET, [0, None]), True)

    def test_less_is_accepted_and_more_is_not(self):
        for candidate, expected in [
            ([0, 1, 1, 2], True), ([0, 0, 0, 0], True), ([0, 2, 0, 3], False), ([0, 1, 0, 2], True), ([0, 2, 2, 3], False), ([0, 3, 1, 3], False),
            ([0, 2, 1, 4], False), ([0, None, 1, 3], False), ([0, 2, 1, None], False), ([0, 2, None, 3], False),
            ([0, None, None, None], False), ([1, 2, 1, 3], False), ([None, 2, 1, 3], False),
            ([0, 0, 1, 1], True), ([0, 2, 1, 0], True),
        ]:
            self.assertIs(are_labels(C0, C3, [C2, C1], FLEET, candidate), expected)

    def test_equal_first_contents(self):
        for candidate, expected in [([0, 0, 1, 0], True), ([0, 1, 1, 0], False), ([0, None, 1, 0], False), ([0, 0, 1, 1], False),
                                    ([1, 1, 1, 1], False), ([0, 0, 1, None], False), ([0, 0, 0, 0], True), ([0, 0, 2, 0], False)]:
            self.assertIs(are_labels(C0, C0, [C0, C1], FLEET, candidate), expected)
        for candidate, expected in [([None, None, None], True), ([0, None, None], False), ([None, None, 0], False),
                                    ([None, 0, None], True), ([None, 7, None], True), ([0, 0, 0], False)]:
            self.assertIs(are_labels(BROKEN, BROKEN, [C1], FLEET, candidate), expected)

    def test_labels_without_a_path_hold_together_too(self):
        # C2 and C3 are not reached, but lead on to each other.
        for candidate, expected in [([0, 5, 6], True), ([0, 5, 7], False), ([0, 5, None], False), ([0, None, 5], True),
                                    ([0, 6, 5], True), ([0, None, None], True)]:
            self.assertIs(are_labels(C0, C3, [C2], FLEET, candidate), expected)
        # No step begins with last.
        self.assertIs(are_labels(C0, C2, [C3], FLEET, [0, None, 1]), True)
        self.assertIs(are_labels(C0, C2, [C3], FLEET, [0, 1, None]), False)

    def test_no_step_leads_to_first(self):
        # C1 leads back to C0, whose label stays 0, and to itself.
        self.assertIs(are_labels(C0, C3, [C1], FLEET, [0, 1, None]), True)

    def test_contents_that_are_not_allowed(self):
        allowed = KeyLimit(1)
        for candidate, expected in [([0, None, 0, None], True), ([0, 1, 0, None], False), ([0, None, None, None], False),
                                    ([0, None, 0, 3], True), ([0, 0, 0, None], False)]:
            self.assertIs(are_labels(C0, C3, [C1, C0], FLEET, candidate, allowed=allowed), expected)
        self.assertIs(are_labels(C1, C3, [C1], FLEET, [0, None, None], allowed=allowed), True)
        self.assertIs(are_labels(C1, C3, [C1], FLEET, [0, 0, None], allowed=allowed), False)

    def test_undoably(self):
        one, two = signed("v", "v"), signed("w", "v")
        self.assertIs(are_labels(one, two, [], FLEET, [0, None], undoable=True), True)
        self.assertIs(are_labels(one, two, [], FLEET, [0, None]), False)

    def test_any_other_value(self):
        for value in [*NO_INTEGERS, [], [0], [0, 2, 1], [0, 2, 1, 3, 4], (0, 2, 1, 3), {0: 0}, {0, 2, 1, 3}, "0213",
                      [0, 2, True, 3], [False, 2, 1, 3], [0, 2.0, 1, 3], [0, -1, 1, 3], [0, 2, 1, -1], [0, -2, 1, 3], [0, 2, 1, -3], [0, 2, 1, "3"],
                      [0, 2, [1], 3], [0, 2, 1, float("nan")]]:
            self.assertIs(are_labels(C0, C3, [C2, C1], FLEET, value), False)
        self.assertIs(are_labels(C0, C1, [], FLEET, [0, True]), False)
        self.assertIs(are_labels(C0, C1, [], FLEET, [False, 1]), False)

    def test_by_words(self):
        source, many = random.Random(13), [0, 0]
        for _ in range(2500):
            fleet = small_fleet(source, most=2)
            first, last, menu = some_menu(source, most=3)
            row, limit = [first, *menu, last], source.choice([1, 2, 3])
            allowed = KeyLimit(limit) if source.random() < 0.5 else None
            undoable = source.random() < 0.3
            candidate = labels(first, last, menu, fleet, undoable=undoable, allowed=allowed)
            self.assertIs(are_labels(first, last, menu, fleet, candidate, undoable=undoable, allowed=allowed), True)
            for _ in range(source.randint(1, 2)):
                candidate[source.randrange(len(row))] = source.choice([None, 0, 1, 2, 3])
            open_to = [True, *[allowed is None or allowed(item) for item in menu], True]
            expected = all(open_to[at] or candidate[at] is None for at in range(len(row)))
            for at, item in enumerate(row):
                if item == first and open_to[at]:
                    expected = expected and candidate[at] == (0 if fits([first], fleet) else None)
            for one, two in itertools.product(range(len(row) - 1), range(1, len(row))):
                if open_to[one] and open_to[two] and along(row[one], row[two], fleet, undoable) and candidate[one] is not None:
                    expected = expected and candidate[two] is not None and candidate[two] <= candidate[one] + 1
            self.assertIs(are_labels(first, last, menu, fleet, candidate, undoable=undoable, allowed=allowed), expected)
            if expected:
                goal = distance(first, last, [item for at, item in enumerate(menu) if open_to[at + 1]], fleet, undoable)
                self.assertTrue(goal is None or candidate[-1] is not None and candidate[-1] <= goal)
            many[expected] += 1
        self.assertGreater(min(many), 100)
