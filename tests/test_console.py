"""Promise [29], and the interface of gaplesskeys.console."""

import random
import unittest

from gaplesskeys.calls import refusals
from gaplesskeys.console import Console
from gaplesskeys.earliest import earliest
from gaplesskeys.errors import (
    InvalidCommand, InvalidKind, InvalidMoment, InvalidPlan, LimitExceeded, UnknownEdition, UnknownName,
)
from gaplesskeys.fleets import Fleet
from gaplesskeys.holding import held_range, lockouts
from gaplesskeys.losses import unready
from gaplesskeys.texts import format_contents, format_fleet, format_plan, parse_contents
from gaplesskeys.undoing import first_stuck
from tests.helper import LAST, LONGEST, NO_INTEGERS, raised, small_fleet, small_plan, told_error

SMOOTH = ["0 app a a | v 1 v", "1 app a,b a | v 1 v", "3 app a,b b | v 1 v", "7 app b b | v 1 v"]
ABRUPT = ["0 app a a | v 1 v", "5 app b b | v 1 v"]
SETUP = ["kind k gap 3 age - from -", "call app k k life 2"]
# A command of each form.
COMMANDS = [
    "kind k gap 3 age 2 from -", "kind r gap 3 age - from k", "call app k k life 2", "edition 9 app a a | v 1 v", "drop", "plan",
    "fleet", "late k", "held k 0", "faults", "undoable", "ready 1", "earliest 0",
]
NEED_A_PLAN = ["drop", "held k 0", "faults", "undoable", "ready 1", "earliest 0"]


def console(*commands):
    """A console on which commands were run."""
    desk = Console()
    for command in commands:
        desk.run(command)
    return desk


def desk_with(editions, setup=SETUP):
    return console(*setup, *[f"edition {line}" for line in editions])


def state(desk):
    return [desk.run("plan"), desk.run("fleet")]


class Case(unittest.TestCase):
    def assert_invalid(self, desk, command):
        before = state(desk)
        error = raised(desk.run, command)
        self.assertIs(type(error), InvalidCommand, command)
        self.assertIs(error.value, command)
        self.assertEqual(state(desk), before)

    def assert_error(self, desk, command, expected):
        before = state(desk)
        self.assertEqual(told_error(desk.run, command), expected)
        self.assertEqual(state(desk), before)


class Forms(Case):
    def test_values_that_are_no_strings(self):
        for value in [*NO_INTEGERS, 0, ["plan"], ("plan",), b"plan", {"plan"}, Console()]:
            if not isinstance(value, str):
                self.assert_invalid(desk_with(SMOOTH), value)

    def test_other_words(self):
        for command in [
            "", " ", "-", "help", "Plan", "PLAN", "plan\n", "\nplan", "plan ", " plan", "plan plan", "plan 1", "fleet fleet", "drop 1",
            "drop 0", "late", "late ", "late k k", "late K", "late -", "late 1", "late k ", "late  k", "late\tk", "late abcdefghi", "held",
            "held k", "held k -", "held 0 k", "held k 0 0", "held K 0", "held k 00", "held k 01", "held k +1", "held k -1", "held k 1.0",
            "held k ", "held k  0", "held k 0\n", "faults k", "undoable 1", "ready", "ready 0", "ready 4", "ready 01", "ready 1 1", "ready -1",
            "ready +1", "ready a", "ready ", "earliest", "earliest ", "earliest -1", "earliest +1", "earliest 00", "earliest 0 0",
            "earliest 1a", "earliest -", "edition", "edition 9", "edition 9 ", "edition app a a | v 1 v", "edition -1 app a a | v 1 v",
            "edition 09 app a a | v 1 v", "edition +9 app a a | v 1 v", "edition  9 app a a | v 1 v", "edition 9  app a a | v 1 v",
            "edition 9 app a a | v 1", "edition 9 app a a | v 5 v", "edition 9 app b,a a | v 1 v", "edition 9 app a a | v 1 v ",
            "edition 9 app a a", "edition a app a a | v 1 v", "edition - app a a | v 1 v", "editions 9 app a a | v 1 v",
            "edition 9 app a a | v 1 v\n", "edition 9\napp a a | v 1 v", "kind", "kind k", "kind k gap 3 age -", "kind k gap 3 age - from",
            "kind k gap 3 age - from ", "kind k gap 3 age - from - -", "kind K gap 3 age - from -", "kind - gap 3 age - from -",
            "kind k gap - age - from -", "kind k gap 03 age - from -", "kind k gap -3 age - from -", "kind k gap +3 age - from -",
            "kind k gap 3 age 01 from -", "kind k gap 3 age -1 from -", "kind k gap 3 age -- from -", "kind k gap 3 age a from -",
            "kind k gap 3 age - from 1", "kind k gap 3 age - from R", "kind k gap 3 age - from abcdefghi", "kind k gap 3 from - age -",
            "kind k gap 3 age - of -", "kind k Gap 3 age - from -", "kind k gap 3 Age - from -", "kind  k gap 3 age - from -",
            "kind k  gap 3 age - from -", "call", "call app k k", "call app k k life", "call app k k life ", "call app k k life -1",
            "call app k k life 01", "call app k k life -", "call app k k life 2 2", "call app k life 2", "call App k k life 2",
            "call app K k life 2", "call app k 1 life 2", "call - k k life 2", "call app - k life 2", "call app k - life 2",
            "call app k k Life 2", "call  app k k life 2", "call app k k lifetime 2", "plan;fleet", "faults;", "\u0661", "held k \u0661",
        ]:
            self.assert_invalid(desk_with(SMOOTH), command)
            self.assert_invalid(Console(), command)

    def test_one_word_or_blank_more_or_less(self):
        for command in COMMANDS:
            words = command.split(" ")
            self.assertIsNone(told_error(desk_with(SMOOTH).run, command))
            for at in range(len(words) + 1):
                blank = " ".join(words[:at] + [""] + words[at:])
                self.assert_invalid(desk_with(SMOOTH), blank)
                for word in ["k", "0", "-", "plan"]:
                    self.assert_invalid(desk_with(SMOOTH), " ".join(words[:at] + [word] + words[at:]))
                if at < len(words):
                    fewer = " ".join(words[:at] + words[at + 1:])
                    self.assert_invalid(desk_with(SMOOTH), fewer)
                    for word in ["", "K", "k1", "-1", "00", "abcdefghi"]:
                        self.assert_invalid(desk_with(SMOOTH), " ".join(words[:at] + [word] + words[at + 1:]))

    def test_integers_of_at_most_sixty_digits(self):
        great, greater = "9" * 60, "1" + "0" * 60
        for command, expected in [
            ("held k NUMBER", (UnknownEdition, int(great))), ("earliest NUMBER", (InvalidMoment, int(great))),
            ("edition NUMBER app a a | v 1 v", (InvalidPlan, 4)), ("kind k gap NUMBER age - from -", (InvalidKind, int(great))),
            ("kind k gap 3 age NUMBER from -", (InvalidKind, int(great))), ("call app k k life NUMBER", (InvalidMoment, int(great))),
        ]:
            self.assert_error(desk_with(SMOOTH), command.replace("NUMBER", great), expected)
            for word in [greater, great + "9", "9" * 5000]:
                self.assert_invalid(desk_with(SMOOTH), command.replace("NUMBER", word))

    def test_commands_that_need_a_plan(self):
        for desk in [Console(), console(*SETUP), console(*SETUP, "edition 0 app a a | v 1 v", "drop")]:
            for command in NEED_A_PLAN:
                self.assert_invalid(desk, command)
        for command in ["plan", "fleet", "late k", "kind r gap 1 age 0 from k", "call app k k life 0", "edition 0 app a a | v 1 v"]:
            self.assertIsNone(told_error(console(*SETUP).run, command))

    def test_by_name(self):
        self.assertEqual(Console().run(command="plan"), "")


class Fleets(Case):
    def test_it_is_empty_at_first(self):
        self.assertEqual(state(Console()), ["", ""])

    def test_kinds_and_calls(self):
        desk = Console()
        for command in ["kind k gap 3 age - from -", "kind b gap 2 age 0 from k", f"kind a gap {LONGEST} age {LONGEST} from b",
                        "call app k b life 2", f"call web a a life {LONGEST}", "call app k b life 2"]:
            self.assertEqual(desk.run(command), "ok")
        self.assertEqual(desk.run("fleet"), ";".join([
            f"kind a gap {LONGEST} age {LONGEST} from b", "kind b gap 2 age 0 from k", "kind k gap 3 age - from -",
            "call app k b life 2", f"call web a a life {LONGEST}", "call app k b life 2",
        ]))
        self.assertEqual([desk.run("late k"), desk.run("late b"), desk.run("late a")], ["3", "5", str(5 + 3 * LONGEST - 2)])
        # A kind is put in the place of one that is there.
        self.assertEqual(desk.run("kind k gap 9 age 1 from -"), "ok")
        self.assertEqual([desk.run("late k"), desk.run("late b")], ["18", "20"])

    def test_words_of_commands_as_names(self):
        desk = console("kind kind gap 1 age - from -", "kind gap gap 2 age - from kind", "call call kind gap life 0", "edition 0 call a a | v 1 v")
        self.assertEqual(desk.run("fleet"), "kind gap gap 2 age - from kind;kind kind gap 1 age - from -;call call kind gap life 0")
        self.assertEqual([desk.run("late gap"), desk.run("held gap 0")], ["2", "0 -"])

    def test_errors_of_kinds(self):
        for command, expected in [
            ("kind k gap 0 age - from -", (InvalidKind, 0)), (f"kind k gap {LONGEST + 1} age 0 from -", (InvalidKind, LONGEST + 1)),
            (f"kind k gap 1 age {LONGEST + 1} from -", (InvalidKind, LONGEST + 1)), ("kind k gap 0 age 1 from z", (InvalidKind, 0)),
            ("kind b gap 1 age - from z", (UnknownName, "z")), ("kind k gap 1 age - from k", (InvalidKind, "k")),
            ("kind z gap 1 age - from z", (UnknownName, "z")), ("late z", (UnknownName, "z")), ("held z 9", (UnknownName, "z")),
        ]:
            self.assert_error(desk_with(SMOOTH), command, expected)
        desk = console(*[f"kind {name} gap 1 age - from -" for name in "abcde"])
        self.assert_error(desk, "kind f gap 1 age - from -", (LimitExceeded, 5))
        self.assertEqual(desk.run("kind e gap 2 age - from a"), "ok")
        desk = console("kind a gap 1 age - from -", *[f"kind {name} gap 1 age - from {source}" for name, source in ["ba", "cb", "dc"]])
        self.assert_error(desk, "kind e gap 1 age - from d", (InvalidKind, "e"))
        self.assert_error(desk, "kind a gap 1 age - from d", (InvalidKind, "a"))

    def test_errors_of_calls(self):
        for command, expected in [
            ("call app z y life 1", (UnknownName, "z")), ("call app k y life 1", (UnknownName, "y")),
            (f"call app k k life {LONGEST + 1}", (InvalidMoment, LONGEST + 1)), (f"call app k z life {LONGEST + 1}", (UnknownName, "z")),
        ]:
            self.assert_error(console(*SETUP), command, expected)
        desk = console(*SETUP, *SETUP[1:] * 5)
        self.assert_error(desk, SETUP[1], (LimitExceeded, 6))


class Plans(Case):
    def test_editions(self):
        desk = Console()
        for at, line in enumerate(SMOOTH):
            self.assertEqual(desk.run(f"edition {line}"), "ok")
            self.assertEqual(desk.run("plan"), ";".join(SMOOTH[:at + 1]))
        for at in [3, 2, 1, 0]:
            self.assertEqual(desk.run("drop"), "ok")
            self.assertEqual(desk.run("plan"), ";".join(SMOOTH[:at]))
        # It can begin anew, with other roles.
        self.assertEqual(desk.run(f"edition {LAST} app - z / web a,b a | - 0 x,y"), "ok")
        self.assertEqual(desk.run("plan"), f"{LAST} app - z / web a,b a | - 0 x,y")

    def test_errors(self):
        self.assert_error(Console(), f"edition {LAST + 1} app a a | v 1 v", (InvalidPlan, 0))
        for command in ["edition 7 app a a | v 1 v", "edition 0 app a a | v 1 v", "edition 9 web a a | v 1 v",
                        f"edition {LAST + 1} app a a | v 1 v", "edition 9 app a a / web a a | v 1 v"]:
            self.assert_error(desk_with(SMOOTH), command, (InvalidPlan, 4))
        desk = desk_with([f"{n} app a a | v 1 v" for n in range(7)])
        for command in ["edition 7 app a a | v 1 v", "edition 0 web a a | v 1 v"]:
            self.assert_error(desk, command, (LimitExceeded, 7))

    def test_held(self):
        desk = desk_with(SMOOTH)
        self.assertEqual([desk.run(f"held k {number}") for number in range(4)], ["0 2", "1 4", "3 8", "7 -"])
        self.assert_error(desk, "held k 4", (UnknownEdition, 4))
        self.assert_error(desk, "held z 4", (UnknownName, "z"))

    def test_roles_of_calls(self):
        desk = desk_with(SMOOTH, [*SETUP, "call web k k life 1", "call db k k life 1"])
        for command in ["held k 0", "held z 9", "faults", "undoable", "ready 1", "earliest 0", "earliest " + "9" * 60]:
            self.assert_error(desk, command, (UnknownName, "web"))
        self.assertEqual(desk.run("drop"), "ok")
        self.assertEqual(desk.run("late k"), "3")


class Questions(Case):
    def test_faults(self):
        self.assertEqual(desk_with(SMOOTH).run("faults"), "none")
        self.assertEqual(desk_with(ABRUPT).run("faults"), "call 0 0 1;call 0 1 0")
        setup = ["kind z gap 3 age - from -", "kind b gap 2 age - from z", "call app z b life 0", "call app b z life 1"]
        desk = desk_with(["0 app a a | v 1 v", "5 app b b | w 1 w"], setup)
        self.assertEqual(desk.run("faults"), "call 0 0 1;call 0 1 0;call 1 0 1;call 1 1 0;jump b 0 1;jump z 0 1")
        desk = desk_with(["0 app a a | v 1 v", "1 app a a | w 1 v", "3 app a a | w 1 w"], ["kind k gap 3 age - from -"])
        self.assertEqual(desk.run("faults"), "jump k 0 2")

    def test_undoable(self):
        self.assertEqual(desk_with(SMOOTH).run("undoable"), "yes")
        self.assertEqual(desk_with(ABRUPT).run("undoable"), "1")
        self.assertEqual(desk_with(ABRUPT[:1]).run("undoable"), "yes")
        self.assertEqual(desk_with([*SMOOTH, "20 app c c | v 1 v"]).run("undoable"), "4")

    def test_ready(self):
        self.assertEqual([desk_with(SMOOTH).run(f"ready {size}") for size in [1, 2, 3]], ["0 a"] * 3)
        rich = desk_with(["0 app a,b,c a | v,w,x,y 1 v", "9 app a,b,c,d a | v,w,x,y 1 v"])
        self.assertEqual([rich.run(f"ready {size}") for size in [1, 2, 3]], ["yes", "yes", "0 a,b,c"])
        # The empty list of keys.
        self.assertEqual(desk_with(["0 app a,b a | v,w 1 v", "9 app a,b a | - 1 v"]).run("ready 1"), "1 -")

    def test_earliest(self):
        self.assertEqual([desk_with(SMOOTH).run(f"earliest {start}") for start in [0, 5]], ["0 1 3 7", "5 6 8 12"])
        self.assertEqual(desk_with(ABRUPT).run("earliest 0"), "none")
        self.assertEqual(desk_with(SMOOTH[:1]).run(f"earliest {LONGEST}"), str(LONGEST))
        self.assert_error(desk_with(SMOOTH), f"earliest {LONGEST + 1}", (InvalidMoment, LONGEST + 1))

    def test_nothing_changes(self):
        desk = desk_with(ABRUPT)
        for command in ["plan", "fleet", "late k", "held k 0", "faults", "undoable", "ready 2", "earliest 3"]:
            before = state(desk)
            first = desk.run(command)
            self.assertEqual([state(desk), desk.run(command)], [before, first])
            self.assertIs(type(first), str)

    def test_consoles_are_independent(self):
        one, two = desk_with(SMOOTH), Console()
        self.assertEqual(state(two), ["", ""])
        two.run("kind k gap 9 age - from -")
        self.assertEqual(one.run("late k"), "3")

    def test_as_the_functions_behind_it_answer(self):
        source = random.Random(29)
        for _ in range(150):
            fleet, plan = small_fleet(source), small_plan(source, 5)
            desk = Console()
            made = Fleet()
            for name in fleet.names():
                for link in fleet.chain(name):
                    kind = made[link] = fleet[link]
                    age, origin = ("-" if value is None else value for value in [kind.age, kind.source])
                    self.assertEqual(desk.run(f"kind {link} gap {kind.gap} age {age} from {origin}"), "ok")
            for role, client, server, life in fleet.calls():
                self.assertEqual(desk.run(f"call {role} {client} {server} life {life}"), "ok")
            items = [plan.contents_of(number) for number in range(len(plan))]
            for number, item in enumerate(items):
                self.assertEqual(parse_contents(format_contents(item)), item)
                self.assertEqual(desk.run(f"edition {plan.moment_of(number)} {format_contents(item)}"), "ok")
            self.assertEqual(state(desk), [format_plan(plan).replace("\n", ";"), format_fleet(fleet).replace("\n", ";")])
            for name in fleet.names():
                self.assertEqual(desk.run(f"late {name}"), str(fleet.lateness(name)))
                for number in range(len(plan)):
                    self.assertEqual(desk.run(f"held {name} {number}"), str(held_range(plan, fleet, name, number)))
            told = [f"call {c} {i} {j}" for c, i, j in refusals(plan, fleet)]
            told += [f"jump {name} {i} {j}" for name, i, j in lockouts(plan, fleet)]
            self.assertEqual(desk.run("faults"), ";".join(told) or "none")
            stuck, start = first_stuck(plan, fleet), source.randint(0, 9)
            self.assertEqual(desk.run("undoable"), "yes" if stuck is None else str(stuck))
            for size in [1, 2]:
                found = unready(plan, fleet, size)
                self.assertEqual(desk.run(f"ready {size}"), f"{found[0]} {','.join(found[1]) or '-'}" if found else "yes")
            moments = earliest(items, fleet, start=start)
            self.assertEqual(desk.run(f"earliest {start}"), " ".join(map(str, moments)) if moments else "none")
