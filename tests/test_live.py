"""Promises [24], [25], [26] and [3] (h), and the interface of gaplesskeys.live."""

import itertools
import random
import unittest

from gaplesskeys.contents import Contents
from gaplesskeys.errors import (
    InvalidContents, InvalidKind, InvalidMoment, InvalidReport, LimitExceeded, TooSoon, UnknownEdition, UnknownName,
)
from gaplesskeys.fleets import Fleet, Kind
from gaplesskeys.live import Publisher
from gaplesskeys.plans import Plan
from tests.helper import (
    LAST, LONGEST, NO_CONTENTS, NO_INTEGERS, NO_MOMENTS, NO_WORDS, contents, fleet_of, near_contents, plain_plan, plan_of,
    raised, small_contents, told_error,
)
from tests.live_model import earliest_of, faults_between, last_held_by_words, may_publish, Service, services_of
from tests.model import Line

C0, C1, C2, C3 = [contents(*keys, vouchers="v", needed=1) for keys in ["a", ("ab", "a"), ("ab", "b"), "b"]]
FLEET = fleet_of([("app", "k", "k", 0)], k=(3, 1, None))
PLAIN = fleet_of([("app", "k", "k", 2)], k=(3, None, None))
RELAYS = fleet_of(k=(3, None, None), r=(2, None, "k"))
ODD = fleet_of([("app", "k", "k", 0), ("web", "k", "k", 0), ("db", "k", "k", 0)], k=(3, None, None))
BOTH = {"s": "k", "t": "k"}
TWO = Contents({"app": (["a"], "a"), "web": (["a"], "a")}, [], needed=0)
NO_SERVICES = [
    *[value for value in NO_INTEGERS if value != {}], "s", ["s"], [("s", "k")], {"s"}, {"s": "z"}, {"s": "k", "t": "r"}, {"s": "r"},
    *[{"s": value} for value in NO_WORDS], {"s": ["k"]}, {"s": ("k",)}, {"s": Kind(gap=1)}, {"s": None},
    *[{value: "k"} for value in NO_WORDS if not isinstance(value, (list, dict, set))],
    {**BOTH, 3: "k"}, {**BOTH, "u": 3}, {name: "k" for name in "abcdefghijklm"},
]


def publisher(*items, fleet=FLEET, services=None, start=0, step=5):
    """A publisher that has published contents at moments of a step, with the last one at the present moment."""
    moments = range(start, start + step * len(items), step)
    plan = Plan(list(zip(moments, items)))
    return Publisher.resumed(fleet, BOTH if services is None else services, plan, plan.moment_of(len(items) - 1))


def state(live):
    """All that can be asked of a publisher that does not change it."""
    names = [name for name in "stu" if told_error(live.reports, name) is None]
    plan = live.published
    return [live.now, plan.moments(), [plan.contents_of(n) for n in range(len(plan))], [live.reports(name) for name in names],
            [live.last_held(name, n) for name in names for n in range(len(plan))]]


class Making(unittest.TestCase):
    def test_the_first_edition(self):
        live = Publisher(FLEET, BOTH, C0, 7)
        self.assertEqual([live.now, live.published], [7, plan_of((7, C0))])
        self.assertEqual([live.reports("s"), live.reports("t"), live.last_held("s", 0)], [[], [], None])
        named = Publisher(fleet=FLEET, services=BOTH, contents=C0, moment=LAST)
        self.assertEqual([named.now, named.published], [LAST, plan_of((LAST, C0))])

    def test_wrong_services_come_first(self):
        fleet = fleet_of([("web", "k", "k", 0)], k=(3, None, None), r=(2, None, "k"))
        for services in NO_SERVICES:
            for error in [raised(Publisher, fleet, services, None, None), raised(Publisher, RELAYS, services, C0, 0),
                          raised(Publisher.resumed, fleet, services, plain_plan(0), None),
                          raised(Publisher.resumed, RELAYS, services, plain_plan(0), 0)]:
                self.assertIs(type(error), InvalidKind)
                self.assertIs(error.value, services)
        for services in [{}, {"k": "k"}, {"r": "k"}, {name: "k" for name in "abcdefghijkl"}]:
            self.assertIsNone(told_error(Publisher, RELAYS, services, C0, 0))
            self.assertIsNone(told_error(Publisher.resumed, RELAYS, services, plain_plan(0), 0))
        self.assertIs(type(raised(Publisher, Fleet(), BOTH, C0, 0)), InvalidKind)

    def test_then_contents_roles_and_moments(self):
        for value in NO_CONTENTS:
            self.assertEqual(told_error(Publisher, ODD, BOTH, value, None), (InvalidContents, None))
        for moment in [None, 0]:
            self.assertEqual(told_error(Publisher, ODD, BOTH, C0, moment), (UnknownName, "web"))
            self.assertEqual(told_error(Publisher.resumed, ODD, BOTH, plain_plan(0), moment), (UnknownName, "web"))
        for moment in NO_MOMENTS:
            for error in [raised(Publisher, FLEET, BOTH, C0, moment), raised(Publisher.resumed, FLEET, BOTH, plain_plan(0), moment)]:
                self.assertIs(type(error), InvalidMoment)
                self.assertIs(error.value, moment)

    def test_resumed(self):
        plan = plan_of((2, C0), (5, C1), (9, C2))
        for moment in [9, 10, LAST]:
            live = Publisher.resumed(FLEET, BOTH, plan, moment)
            self.assertEqual([live.now, live.published, live.reports("s"), live.reports("t")], [moment, plan, [], []])
            self.assertEqual([live.last_held("s", number) for number in range(3)], [5 + 4, 9 + 4, None])
        for moment in [0, 2, 8]:
            self.assertEqual(told_error(Publisher.resumed, FLEET, BOTH, plan, moment), (InvalidMoment, moment))
        named = Publisher.resumed(fleet=FLEET, services=BOTH, plan=plan, moment=9)
        self.assertEqual(named.now, 9)
        self.assertIs(type(named), Publisher)
        # The plan may be one that would not be published so.
        self.assertEqual(len(Publisher.resumed(FLEET, BOTH, plan_of((0, C0), (1, C3)), 1).published), 2)

    def test_what_is_given_may_change_later(self):
        fleet, services, plan = fleet_of(k=(3, 1, None)), dict(BOTH), plan_of((0, C0), (5, C1))
        lives = [Publisher.resumed(fleet, services, plan, 5), Publisher(fleet, services, C0, 0)]
        before = [state(live) for live in lives]
        fleet["k"] = Kind(gap=9)
        fleet.add_call("app", "k", "k")
        services["u"] = services.pop("s")
        plan.add(9, C2)
        self.assertEqual([state(live) for live in lives], before)
        self.assertEqual(lives[0].earliest(C3), 6)
        self.assertEqual(lives[1].earliest(C3), 1)

    def test_what_is_returned_is_new(self):
        live = publisher(C0, C1)
        live.wait(8)
        live.report("s", 7)
        before = state(live)
        live.published.add(9, C2)
        live.published.drop()
        live.published[0] = (0, C3)
        live.reports("s").append(3)
        live.reports("t").append(3)
        self.assertEqual(state(live), before)
        # A plan that was returned does not change either.
        plan = live.published
        live.wait(30)
        live.publish(C2)
        self.assertEqual([len(plan), len(live.published)], [2, 3])


class Waiting(unittest.TestCase):
    def test_wait(self):
        live = Publisher(FLEET, BOTH, C0, 5)
        for moment in [5, 6, 6, 10 ** 30, LAST]:
            self.assertIsNone(live.wait(moment))
            self.assertEqual(live.now, moment)
        live = Publisher(FLEET, BOTH, C0, 5)
        live.wait(moment=9)
        for moment in [*NO_MOMENTS, 0, 5, 8]:
            before = state(live)
            error = raised(live.wait, moment)
            self.assertIs(type(error), InvalidMoment)
            self.assertIs(error.value, moment)
            self.assertEqual(state(live), before)


class Reporting(unittest.TestCase):
    def test_reports(self):
        live = Publisher(FLEET, BOTH, C0, 2)
        live.wait(9)
        for moment in [8, 2, 5]:
            self.assertIsNone(live.report("s", moment))
        live.report(name="t", moment=5)
        self.assertEqual([live.reports("s"), live.reports(name="t")], [[2, 5, 8], [5]])

    def test_unknown_services_come_first(self):
        live = Publisher(FLEET, BOTH, C0, 2)
        for name in [*NO_WORDS, "k", "u", "st"]:
            for error in [raised(live.report, name, None), raised(live.report, name, 2), raised(live.reports, name),
                          raised(live.last_held, name, None), raised(live.last_held, name, 0)]:
                self.assertIs(type(error), UnknownName)
                self.assertIs(error.name, name)

    def test_wrong_moments(self):
        live = Publisher(FLEET, BOTH, C0, 2)
        live.wait(9)
        live.report("s", 4)
        before = state(live)
        for moment in [*NO_MOMENTS, 0, 1, 9, 10, 4, LAST]:
            error = raised(live.report, "s", moment)
            self.assertIs(type(error), InvalidReport)
            self.assertIs(error.value, moment)
            self.assertEqual(state(live), before)
        live.report("t", 4)
        live.wait(10)
        live.report("s", 9)
        self.assertEqual(live.reports("s"), [4, 9])
        # There is nothing to report at the very beginning.
        self.assertEqual(told_error(Publisher(FLEET, BOTH, C0, 2).report, "s", 2), (InvalidReport, 2))

    def test_reports_of_all_published_editions(self):
        live = publisher(C0, C1, C2)
        self.assertIsNone(live.report("s", 0))
        self.assertIsNone(live.report("s", 9))
        self.assertEqual(told_error(live.report, "s", 10), (InvalidReport, 10))


class LastHeld(unittest.TestCase):
    def test_errors(self):
        live = publisher(C0, C1)
        for number in [-1, 2, 7, *NO_INTEGERS]:
            error = raised(live.last_held, "s", number)
            self.assertIs(type(error), UnknownEdition)
            self.assertIs(error.number, number)
        self.assertEqual(live.last_held(name="s", number=0), 5 + 4)
        self.assertIsNone(live.last_held("s", 1))

    def held(self, gap, age, *reports):
        """The last moment for edition 0, behind which edition 1 is published at 10."""
        live = Publisher.resumed(fleet_of(k=(gap, age, None)), {"s": "k"}, plan_of((0, C0), (10, C1)), 60)
        for report in reports:
            live.report("s", report)
        return live.last_held("s", 0)

    def test_without_an_age(self):
        self.assertEqual([self.held(gap, None) for gap in [1, 2, 3, 9]], [9, 10, 11, 17])
        # A report at 9 or earlier tells nothing.
        for report, expected in [(0, 13), (8, 13), (9, 13), (10, 9), (11, 10), (13, 12), (14, 13), (15, 13), (59, 13)]:
            self.assertEqual(self.held(5, None, report), expected)
        self.assertEqual(self.held(5, None, 30, 12, 11, 13, 9), 10)

    def test_with_an_age(self):
        self.assertEqual([self.held(3, age) for age in [0, 1, 4]], [9 + 4, 9 + 5, 9 + 8])
        self.assertEqual([self.held(1, age) for age in [0, 1, 4]], [9, 10, 13])

    def test_reports_after_the_edition(self):
        # s is 11 without reports, u is 13, and the end is 15.
        for report, expected in [(9, 15), (10, 13), (11, 14), (12, 15), (13, 12), (14, 13), (15, 14), (16, 15), (17, 15)]:
            self.assertEqual(self.held(3, 2, report), expected)
        # With a report at 10, s is 9 and u is at most 11.
        for report, expected in [(9, 13), (11, 9), (12, 11), (13, 12), (14, 13)]:
            self.assertEqual(self.held(3, 2, 10, report), expected)

    def test_reports_where_it_could_begin_again(self):
        # All of 11 to 13 but one are reported.
        self.assertEqual(self.held(3, 2, 12, 13), 11 + 0)
        self.assertEqual(self.held(3, 2, 11, 12), 10)
        self.assertEqual(self.held(3, 2, 10, 11), 9)
        self.assertEqual(self.held(3, 3, 10, 12), 11)
        self.assertEqual(self.held(3, 3, 10, 11, 12), 9)
        # The gap is 1, and 9 is reported, so that there may be none.
        self.assertEqual(self.held(1, 0, 9), 9)
        self.assertEqual(self.held(1, 1, 9), 10)
        self.assertEqual(self.held(1, 1, 9, 10), 9)
        self.assertEqual(self.held(1, 2, 9, 10), 11)
        self.assertEqual(self.held(1, 2, 9, 10, 11), 9)
        self.assertEqual(self.held(4, 2, 9, 10, 11), 9)

    def test_each_service_for_itself(self):
        fleet = fleet_of(k=(3, 2, None), l=(4, None, None))
        live = Publisher.resumed(fleet, {"s": "k", "t": "k", "u": "l"}, plan_of((0, C0), (10, C1), (20, C2)), 60)
        live.report("s", 10)
        self.assertEqual([live.last_held(name, 0) for name in "stu"], [13, 15, 12])
        self.assertEqual([live.last_held(name, 1) for name in "stu"], [25, 25, 22])
        live.report("u", 21)
        self.assertEqual([live.last_held(name, 1) for name in "stu"], [25, 25, 20])

    def test_reports_that_come_later(self):
        live = publisher(C0, C1)
        live.wait(8)
        self.assertEqual(live.last_held("s", 0), 9)
        live.report("s", 6)
        self.assertEqual(live.last_held("s", 0), 5 + 1 - 1 + 0)
        live.report("s", 5)
        self.assertEqual(live.last_held("s", 0), 4)

    def test_great_numbers(self):
        live = Publisher.resumed(fleet_of(k=(LONGEST, LONGEST, None)), {"s": "k"}, plan_of((0, C0), (LAST, C1)), LAST)
        self.assertEqual(live.last_held("s", 0), LAST + 3 * LONGEST - 3)
        live = Publisher.resumed(fleet_of(k=(LONGEST, LONGEST, None)), {"s": "k"}, plan_of((0, C0), (5, C1)), LAST)
        until = 4 + LONGEST - 1 + LONGEST
        for report, expected in [(LAST - 1, until + LONGEST - 1), (until + 9, until + 8), (until, until - 1), (until - 1, until - 2)]:
            live.report("s", report)
            self.assertEqual(live.last_held("s", 0), expected)

    def test_by_words(self):
        source = random.Random(25)
        for _ in range(1500):
            kind = Kind(gap=source.randint(1, 5), age=source.choice([None, 0, 1, 2, 3, 6]))
            fleet = Fleet()
            fleet["k"] = kind
            moments = list(itertools.accumulate([source.randint(0, 3)] + [source.randint(1, 6) for _ in range(4)]))
            live = Publisher.resumed(fleet, {"s": "k"}, plain_plan(*moments), 60)
            reports = source.sample(range(moments[0], 40), source.randint(0, 12))
            for report in reports:
                live.report("s", report)
            for number in range(4):
                self.assertEqual(live.last_held("s", number), last_held_by_words(kind, reports, moments, number))
            self.assertIsNone(live.last_held("s", 4))


class Earliest(unittest.TestCase):
    def test_wrong_contents(self):
        live = publisher(C0, C1)
        for value in [*NO_CONTENTS, contents(role="web"), TWO]:
            for call in [live.earliest, live.publish]:
                before = state(live)
                self.assertEqual(told_error(call, value), (InvalidContents, None))
                self.assertEqual(state(live), before)
        full = publisher(*[C0] * 7)
        self.assertEqual(told_error(full.publish, None), (InvalidContents, None))

    def test_not_before_the_present_moment_and_after_the_last_edition(self):
        live = Publisher(FLEET, BOTH, C0, 5)
        self.assertEqual(live.earliest(C0), 6)
        for moment in [6, 7, LAST]:
            live.wait(moment)
            self.assertEqual(live.earliest(contents=C0), moment)
        live = Publisher(FLEET, BOTH, C0, LAST)
        self.assertEqual(live.earliest(C1), LAST + 1)
        self.assertEqual(told_error(live.publish, C1), (TooSoon, LAST + 1))

    def test_clients(self):
        # Until 12 clients hold edition 0, and what they make then is shown for 2 moments.
        live = publisher(C0, C2, fleet=PLAIN, step=10)
        self.assertEqual(live.last_held("s", 0), 11)
        self.assertEqual(live.earliest(C3), 14)
        self.assertEqual(live.earliest(C1), 11)
        live.wait(13)
        live.report("s", 11)
        self.assertEqual(live.earliest(C3), 14)
        live.report("t", 12)
        self.assertEqual([live.last_held("s", 0), live.last_held("t", 0), live.earliest(C3)], [10, 11, 14])
        live.report("t", 10)
        self.assertEqual([live.last_held("t", 0), live.earliest(C3)], [9, 13])

    def test_servers(self):
        live = publisher(C0, C1, fleet=PLAIN, step=10)
        self.assertEqual(live.earliest(C2), 12)
        live.wait(11)
        live.report("s", 10)
        self.assertEqual(live.earliest(C2), 12)
        live.report("t", 10)
        self.assertEqual(live.earliest(C2), 11)

    def test_lockouts(self):
        items = [contents(vouchers=one, signers=two, needed=1) for one, two in [("v", "v"), ("w", "v"), ("w", "w")]]
        live = publisher(*items[:2], fleet=PLAIN, step=10, services={"s": "k"})
        # Who holds edition 0 at 11 reads the next one at 12.
        self.assertEqual(live.last_held("s", 0), 11)
        self.assertEqual(live.earliest(items[2]), 13)
        live.wait(12)
        live.report("s", 11)
        self.assertEqual([live.last_held("s", 0), live.earliest(items[2])], [10, 12])
        self.assertEqual(told_error(Publisher(PLAIN, {"s": "k"}, items[0], 0).earliest, items[2]), None)

    def test_never(self):
        self.assertIsNone(publisher(C0).earliest(C3))
        self.assertIsNone(publisher(C0).earliest(C2))
        self.assertIsNone(publisher(C0, C1).earliest(C3))
        self.assertIsNone(publisher(C0).earliest(contents("a", "b", vouchers="v", needed=1)))
        one, two = contents(vouchers="v", needed=1), contents(vouchers="w", needed=1)
        for fleet in [FLEET, fleet_of(k=(1, None, None))]:
            self.assertIsNone(Publisher(fleet, {"s": "k"}, one, 0).earliest(two))
        # Time and reports do not help.
        live = publisher(C0)
        live.wait(LAST)
        live.report("s", LAST - 1)
        live.report("t", LAST - 1)
        self.assertIsNone(live.earliest(C3))

    def test_prompt_services(self):
        for age in [None, 0]:
            fleet = fleet_of([("app", "k", "k", 0)], k=(1, age, None))
            live = Publisher(fleet, BOTH, C0, 0)
            self.assertEqual(live.earliest(C3), 1)
            live.wait(1)
            self.assertEqual(live.publish(C3), 1)
            longer = fleet_of([("app", "k", "k", 1)], k=(1, age, None))
            self.assertIsNone(Publisher(longer, BOTH, C0, 0).earliest(C3))
            # Servers that learn at once accept a new key at once.
            self.assertEqual(Publisher(longer, BOTH, C0, 0).earliest(C2), 1)
        late = fleet_of([("app", "k", "k", 0)], k=(1, 1, None))
        self.assertIsNone(Publisher(late, BOTH, C0, 0).earliest(C3))

    def test_two_different_services(self):
        # One service alone calls none.
        for services in [{}, {"s": "k"}]:
            live = Publisher(FLEET, services, C0, 0)
            self.assertEqual(live.earliest(contents("a", "z", vouchers="v", needed=1)), 1)
            self.assertEqual(live.earliest(C3), 1)
        fleet = fleet_of([("app", "k", "l", 0)], k=(3, None, None), l=(2, None, None))
        for services, expected in [({"s": "k", "t": "k"}, 1), ({"s": "l", "t": "l"}, 1), ({"s": "k", "t": "l"}, None)]:
            self.assertEqual(Publisher(fleet, services, C0, 0).earliest(C3), expected)
        # Without services nobody is locked out.
        self.assertEqual(Publisher(FLEET, {}, contents(vouchers="v", needed=1), 0).earliest(contents(vouchers="w", needed=1)), 1)

    def test_each_kind_in_its_part(self):
        fleet = fleet_of([("app", "k", "l", 1)], k=(3, None, None), l=(6, None, None))
        services = {"s": "k", "t": "l"}
        live = publisher(C0, C2, fleet=fleet, services=services, step=10)
        # Clients of the kind k hold 0 until 11, servers of the kind l until 14.
        self.assertEqual([live.last_held("s", 0), live.last_held("t", 0)], [11, 14])
        self.assertEqual(live.earliest(C3), 15)
        self.assertEqual(live.earliest(contents("ab", "b", vouchers="v", needed=1)), 15)
        self.assertEqual(live.earliest(C1), 11)
        self.assertEqual(live.earliest(contents("b", "b", vouchers="v", needed=1)), 15)
        live = publisher(C1, C2, fleet=fleet, services=services, step=10)
        self.assertEqual(live.earliest(C3), 13)

    def test_roles(self):
        one = Contents({"app": (["a"], "a"), "web": (["a"], "a")}, [], needed=0)
        two = one.changed("web", accepted=["b"]).changed("web", used="b")
        fleet = fleet_of([("app", "k", "k", 0)], k=(3, None, None))
        self.assertEqual(Publisher(fleet, BOTH, one, 0).earliest(two), 1)
        fleet.add_call("web", "k", "k")
        self.assertIsNone(Publisher(fleet, BOTH, one, 0).earliest(two))

    def test_all_published_editions_count(self):
        # Behind edition 1, edition 0 can still be held.
        live = publisher(C0, C1, C1, fleet=PLAIN, step=1)
        self.assertEqual([live.last_held("s", 0), live.last_held("s", 1)], [2, 3])
        self.assertEqual(live.earliest(C2), 3)
        live = publisher(C1, C2, C2, fleet=PLAIN, step=1)
        self.assertEqual(live.earliest(C3), 5)

    def test_seven_editions(self):
        live = publisher(*[C0] * 6, C1, fleet=PLAIN, step=10)
        self.assertEqual(live.earliest(C2), 62)
        live.wait(70)
        self.assertEqual(live.earliest(C2), 70)

    def test_nothing_changes(self):
        live = publisher(C0, C1)
        before = state(live)
        for item in [C0, C1, C2, C3]:
            live.earliest(item)
            self.assertEqual(state(live), before)

    def test_great_numbers(self):
        fleet = fleet_of([("app", "k", "k", LONGEST)], k=(LONGEST, LONGEST, None))
        live = Publisher.resumed(fleet, BOTH, plan_of((0, C0), (9, C2)), 9)
        self.assertEqual(live.earliest(C3), 9 + 3 * LONGEST - 3 + LONGEST + 1)
        self.assertEqual(live.earliest(C2), 9 + 3 * LONGEST - 3 + 1)
        self.assertEqual(live.earliest(C1), 10)
        live = Publisher.resumed(fleet, BOTH, plan_of((0, C0), (LAST, C2)), LAST)
        self.assertEqual(live.earliest(C3), LAST + 4 * LONGEST - 2)

    def test_by_words(self):
        source, many = random.Random(26), [0, 0]
        for _ in range(500):
            fleet, names = some_services(source, "stuvw")
            plan, now, reports, live = some_publisher(source, fleet, names)
            for item in [small_contents(source, ("app",)), *near_contents(source, 4), plan.contents_of(len(plan) - 1)]:
                allowed = [moment for moment in range(max(now, plan.moment_of(len(plan) - 1) + 1), now + 30)
                           if may_publish(plan, fleet, names, reports, item, moment)]
                self.assertEqual(live.earliest(item), allowed[0] if allowed else None)
                many[bool(allowed)] += 1
        self.assertGreater(min(many), 100)


def some_services(source, letters):
    """Some fleet and some services of its kinds."""
    fleet = Fleet()
    for name in "kl"[:source.randint(1, 2)]:
        fleet[name] = Kind(gap=source.randint(1, 3), age=source.choice([None, 0, 1, 2]))
    for _ in range(source.randint(0, 2)):
        fleet.add_call("app", source.choice(fleet.names()), source.choice(fleet.names()), life=source.randint(0, 2))
    return fleet, {name: source.choice(fleet.names()) for name in letters[:source.randint(1, len(letters))]}


def some_publisher(source, fleet, names):
    """Some publisher with reports, and what it knows."""
    items = near_contents(source, source.randint(1, 4))
    moments = list(itertools.accumulate([source.randint(0, 1)] + [source.randint(1, 5) for _ in items[1:]]))
    plan = Plan(list(zip(moments, items)))
    now = moments[-1] + source.randint(0, 5)
    live = Publisher.resumed(fleet, names, plan, now)
    reports = {name: source.sample(range(moments[0], now), min(now - moments[0], source.randint(0, 5))) for name in names}
    for name in names:
        for moment in reports[name]:
            live.report(name, moment)
    return plan, now, reports, live


class Publishing(unittest.TestCase):
    def test_publish(self):
        live = Publisher(FLEET, BOTH, C0, 0)
        live.wait(5)
        self.assertEqual(live.publish(C1), 1)
        self.assertEqual([live.now, live.published], [5, plan_of((0, C0), (5, C1))])
        live.wait(10)
        self.assertEqual(live.publish(contents=C2), 2)
        self.assertEqual(live.published.moments(), [0, 5, 10])
        self.assertEqual([live.last_held("s", 0), live.last_held("s", 1), live.last_held("s", 2)], [9, 14, None])

    def test_too_soon(self):
        live = Publisher(FLEET, BOTH, C0, 0)
        self.assertEqual(told_error(live.publish, C0), (TooSoon, 1))
        live.wait(5)
        live.publish(C1)
        self.assertEqual(told_error(live.publish, C1), (TooSoon, 6))
        for moment in range(5, 10):
            live.wait(moment)
            before = state(live)
            self.assertEqual(told_error(live.publish, C2), (TooSoon, 10))
            self.assertEqual(told_error(live.publish, C3), (TooSoon, None))
            self.assertEqual(state(live), before)
        live.wait(10)
        self.assertEqual(live.publish(C2), 2)

    def test_the_limit(self):
        live = publisher(*[C0] * 6)
        live.wait(40)
        self.assertEqual(live.publish(C0), 6)
        for item in [C0, C3]:
            before = state(live)
            self.assertEqual(told_error(live.publish, item), (LimitExceeded, 7))
            live.wait(live.now + 1)
            self.assertEqual(told_error(live.publish, item), (LimitExceeded, 7))
            self.assertEqual(state(live)[1:], before[1:])

    def test_reports_stay(self):
        live = publisher(C0, C1)
        live.wait(30)
        live.report("s", 8)
        live.publish(C2)
        self.assertEqual(live.reports("s"), [8])
        self.assertEqual(live.last_held("s", 1), 30 + 4)
        self.assertIsNone(live.wait(31))
        self.assertIsNone(live.report("s", 30))
        self.assertEqual(live.last_held("s", 1), 29)


class Guarantee(unittest.TestCase):
    def test_it_is_told_as_early_as_all_runs_let_it(self):
        source, many = random.Random(5), [0, 0]
        for _ in range(300):
            fleet, names = some_services(source, "stu")
            plan, now, reports, live = some_publisher(source, fleet, names)
            item = near_contents(source, 3)[-1] if source.random() < 0.5 else next_contents(source, plan)
            expected = earliest_of(plan, fleet, names, reports, now, item, now + 14)
            self.assertEqual(live.earliest(item), expected)
            many[expected is None] += 1
            line = Line(plan.moments(), [plan.contents_of(n) for n in range(len(plan))])
            for name in names:
                service = Service(line, fleet[names[name]], reports[name], now, now + 14)
                for number in range(len(plan) - 1):
                    if not service.lockouts:
                        self.assertEqual(live.last_held(name, number), service.last_held(number))
        self.assertGreater(min(many), 20)

    def test_no_fault_where_it_publishes_only_when_it_is_allowed(self):
        source, editions = random.Random(6), 0
        for _ in range(120):
            fleet, names = some_services(source, "stu")
            live = Publisher(fleet, names, contents("a", vouchers="v", needed=1), source.randint(0, 2))
            reports = {name: [] for name in names}
            for _ in range(14):
                live.wait(live.now + source.choice([0, 1, 1, 2, 3]))
                for name in names:
                    moment = live.now - source.randint(1, 3)
                    if source.random() < 0.5 and moment >= live.published.moment_of(0) and moment not in reports[name]:
                        live.report(name, moment)
                        reports[name].append(moment)
                raised(live.publish, next_contents(source, live.published))
            plan, until = live.published, live.now + 14
            line = Line(plan.moments(), [plan.contents_of(n) for n in range(len(plan))])
            found = services_of(line, {name: fleet[names[name]] for name in names}, reports, live.now, until)
            self.assertEqual(faults_between(found, names, line, fleet.calls(), until), set())
            editions += len(plan)
        self.assertGreater(editions, 400)


def next_contents(source, plan):
    """Some contents that differ little from the last ones of a plan."""
    last = plan.contents_of(len(plan) - 1)
    step = source.randrange(5)
    if step <= 1:
        return last.changed("app", accepted=sorted({*last.accepted("app"), source.choice("abc")}))
    if step == 2:
        return last.changed("app", used=source.choice(last.accepted("app")))
    if step == 3:
        return last.changed("app", accepted=[last.used("app")])
    return last.revouched(vouchers=source.choice([["v"], ["w"], ["v", "w"]]), signers=source.choice([["v"], ["w"], ["v", "w"]]))
