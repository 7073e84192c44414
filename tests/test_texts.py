"""Promises [28] and [3] (j), and the interface of gaplesskeys.texts."""

import random
import re
import unittest

from gaplesskeys.contents import Contents
from gaplesskeys.errors import ParseError
from gaplesskeys.fleets import Fleet
from gaplesskeys.plans import Plan
from gaplesskeys.texts import (
    format_contents, format_fleet, format_plan, parse_contents, parse_fleet, parse_plan,
)
from tests.helper import LAST, LONGEST, NO_INTEGERS, contents, fleet_of, small_contents, small_fleet, small_plan, told_error

WIDE = Contents(
    {"web": (list("hgfedcba"), "zyxwvuts"), "app": (["c", "a"], "b"), "abcdefgh": ([], "k")},
    ["w", "v", "y", "x"], needed=4, signers=["s", "v", "r", "q"],
)
WIDE_TEXT = "abcdefgh - k / app a,c b / web a,b,c,d,e,f,g,h zyxwvuts | v,w,x,y 4 q,r,s,v"
LINE = "app a,b a | v 1 -"
FLEET_TEXT = (
    "kind a gap 2 age 0 from c\nkind b gap 1 age - from a\nkind c gap 3 age - from -\n"
    "call app b a life 5\ncall abcdefgh c c life 0\ncall app b a life 5"
)
NO_TEXTS = [*[value for value in NO_INTEGERS if not isinstance(value, str)], b"app a a | - 0 -", ["app a a | - 0 -"], contents()]
SIGNS = ["", *"av,/|-019 +_.A\n\t%"]


def changed(text):
    """Texts that differ from a text by one sign."""
    found = set()
    for at in range(len(text) + 1):
        for sign in SIGNS:
            found |= {text[:at] + sign + text[at:], text[:at] + sign + text[at + 1:]}
    return sorted(found - {text})


WORD, KEY, NUMBER = "[a-z]{1,8}", "[a-z]{1,8}", "(?:0|[1-9][0-9]*)"
KEYS = f"(?:-|{KEY}(?:,{KEY})*)"
USE = f"{WORD} {KEYS} {KEY}"
CONTENTS_FORM = re.compile(f"({USE}(?: / {USE}){{0,2}}) [|] ({KEYS}) ([0-4]) ({KEYS})")
KIND_FORM = re.compile(f"kind ({WORD}) gap ({NUMBER}) age (-|{NUMBER}) from (-|{WORD})")
CALL_FORM = re.compile(f"call ({WORD}) ({WORD}) ({WORD}) life ({NUMBER})")


def ascends(words):
    return all(one < two for one, two in zip(words, words[1:]))


def is_contents_line(line):
    """Whether a line is the text of contents, by the words of [28] and [5]."""
    found = CONTENTS_FORM.fullmatch(line)
    if not found:
        return False
    uses = [use.split(" ") for use in found[1].split(" / ")]
    lists = [(keys, 8) for _, keys, _ in uses] + [(found[2], 4), (found[4], 4)]
    return ascends([role for role, _, _ in uses]) and all(
        ascends(keys.split(",")) and len(keys.split(",")) <= most for keys, most in lists
    )


def wrong_plan_line(text):
    """The number of the first wrong line of a plan, or None."""
    moments, roles = [-1], None
    for number, line in enumerate(text.split("\n")):
        moment, _, rest = line.partition(" ")
        if number > 6 or not re.fullmatch(NUMBER, moment) or len(moment) > 60 or not is_contents_line(rest):
            return number
        if not moments[-1] < int(moment) <= LAST:
            return number
        found = [use.split(" ")[0] for use in rest.split(" | ")[0].split(" / ")]
        if roles not in (None, found):
            return number
        moments.append(int(moment))
        roles = found
    return None


def wrong_fleet_line(text):
    """The number of the first wrong line of a fleet, -1 if only its names are wrong, or None."""
    kinds, calls = {}, []
    for number, line in enumerate(text.split("\n") if text else []):
        kind, call = KIND_FORM.fullmatch(line), CALL_FORM.fullmatch(line)
        if kind:
            name, gap, age, source = kind.groups()
            if calls or len(kinds) == 5 or not 1 <= int(gap) <= LONGEST or (age != "-" and int(age) > LONGEST):
                return number
            if kinds and name <= list(kinds)[-1]:
                return number
            kinds[name] = source
        elif call and len(calls) < 6 and int(call[4]) <= LONGEST:
            calls.append(call.groups())
        else:
            return number
    for name in kinds:
        for _ in range(4):
            name = kinds.get(name) if name != "-" else name
        if name != "-":
            return -1
    return -1 if any(end not in kinds for call in calls for end in call[1:3]) else None


class ContentsTexts(unittest.TestCase):
    def test_formatted(self):
        self.assertEqual(format_contents(contents=WIDE), WIDE_TEXT)
        two = Contents({"web": (["c"], "c"), "app": (["b", "a"], "a")}, ["v"])
        self.assertEqual(format_contents(two), "app a,b a / web c c | v 1 v")
        self.assertEqual(format_contents(Contents({"app": ([], "a")}, [], needed=0)), "app - a | - 0 -")

    def test_parsed(self):
        self.assertEqual(parse_contents(text=WIDE_TEXT), WIDE)
        self.assertEqual(parse_contents("app - a | - 0 -"), Contents({"app": ([], "a")}, [], needed=0))
        self.assertEqual(parse_contents("app b a | v 2 -"), Contents({"app": (["b"], "a")}, ["v"], needed=2, signers=[]))

    def test_parsing_a_formatted_text_gives_it_back(self):
        source = random.Random(6)
        for _ in range(300):
            made = small_contents(source, source.choice([["app"], ["web", "app"], ["db", "web", "app"]]))
            self.assertEqual(parse_contents(format_contents(made)), made)

    def test_values_that_are_no_texts(self):
        for value in NO_TEXTS:
            self.assertEqual(told_error(parse_contents, value), (ParseError, 0))

    def test_texts_that_are_wrong(self):
        for text in [
            "", " ", "|", " | ", "app", "app a a", "app a a |", "app a a | - 0", "app a a | - 0 - -", "app a | - 0 -",
            "app a a a | - 0 -", " app a a | - 0 -", "app a a | - 0 - ", "app  a a | - 0 -", "app a a  | - 0 -", "app a a|- 0 -",
            "app a a | - 0 -\n", "app a a | - 5 -", "app a a | - -1 -", "app a a | - 01 -", "app a a | - +1 -", "app a a | - 1_0 -",
            "app a a | - - -", "app a a | - x -", "app a a | - 0.0 -", "app b,a a | - 0 -", "app a,a a | - 0 -", "app a, a | - 0 -",
            "app ,a a | - 0 -", "app a,-,b a | - 0 -", "app -,a a | - 0 -", "app a - | - 0 -", "app a a,b | - 0 -", "app A a | - 0 -",
            "App a a | - 0 -", "app a a | w,v 0 -", "app a a | v,v 0 -", "app a a | - 0 w,v", "app a a | - 0 v,v",
            "app a a | a,b,c,d,e 0 -", "app a a | - 0 a,b,c,d,e", "app a,b,c,d,e,f,g,h,i a | - 0 -", "abcdefghi a a | - 0 -",
            "app abcdefghi a | - 0 -", "app a abcdefghi | - 0 -", "web a a / app a a | - 0 -", "app a a / app a a | - 0 -",
            "app a a / app b b | - 0 -", "a a a / b a a / c a a / d a a | - 0 -", "app a a / | - 0 -", "/ app a a | - 0 -",
            "app a a / web | - 0 -", "app a a /web a a | - 0 -", "app a a , web a a | - 0 -", "app a a | - 0 - | - 0 -",
            "app a a | - " + "0" * 5000 + " -", "app a a | - " + "9" * 5000 + " -", "app a a | - \u0661 -", "app a a | - \u00b2 -",
        ]:
            self.assertEqual(told_error(parse_contents, text), (ParseError, 0), text)

    def test_texts_with_one_sign_changed(self):
        for text in [LINE, "app - a | - 0 -", "ab a,b c / b a ab | v,w 2 v,w,x,y"]:
            for other in changed(text):
                if is_contents_line(other):
                    self.assertEqual(format_contents(parse_contents(other)), other)
                else:
                    self.assertEqual(told_error(parse_contents, other), (ParseError, 0), other)


class PlanTexts(unittest.TestCase):
    def test_formatted(self):
        plan = Plan([(0, contents("ba", "a", "v", 1)), (LAST, contents("", "b"))])
        self.assertEqual(format_plan(plan=plan), f"0 app a,b a | v 1 v\n1{'0' * 40} app - b | - 0 -")
        self.assertEqual(format_plan(Plan([(7, contents())])), "7 app a a | - 0 -")

    def test_parsed(self):
        plan = parse_plan(text="0 app a,b a | v 1 v\n7 app - b | - 0 -")
        self.assertEqual(plan, Plan([(0, contents("ba", "a", "v", 1)), (7, contents("", "b"))]))

    def test_parsing_a_formatted_text_gives_it_back(self):
        source = random.Random(7)
        for _ in range(300):
            plan = small_plan(source, most=7, roles=source.choice([("app",), ("web", "app")]))
            self.assertEqual(parse_plan(format_plan(plan)), plan)

    def test_values_that_are_no_texts(self):
        for value in NO_TEXTS:
            self.assertEqual(told_error(parse_plan, value), (ParseError, None))

    def test_the_first_wrong_line(self):
        for text, line in [
            ("", 0), ("\n", 0), (" ", 0), (f"0 {LINE}\n", 1), (f"\n0 {LINE}", 0), (f"0 {LINE}\n\n1 {LINE}", 1), (LINE, 0), ("0", 0), ("0 ", 0),
            (f"0 {LINE}\n0 {LINE}", 1), (f"5 {LINE}\n4 {LINE}", 1), (f"0 {LINE}\n2 {LINE}\n2 {LINE}\n1 {LINE}", 2),
            (f"0  {LINE}", 0), (f" 0 {LINE}", 0), (f"0 {LINE} ", 0), (f"00 {LINE}", 0), (f"0 {LINE}\n01 {LINE}", 1), (f"+1 {LINE}", 0),
            (f"-1 {LINE}", 0), (f"-0 {LINE}", 0), (f"1.0 {LINE}", 0), (f"x {LINE}", 0), (f"- {LINE}", 0), (f"{LAST + 1} {LINE}", 0),
            (f"0 {LINE}\n{LAST + 1} {LINE}", 1), (f"0 {LINE}\n{10 ** 60} {LINE}", 1), (f"{'9' * 5000} {LINE}", 0),
            (f"0 {LINE}\n1 web a a | - 0 -", 1), (f"0 {LINE}\n1 app a a / web a a | - 0 -\n1 {LINE}", 1), (f"0 app A a | - 0 -\n0 {LINE}", 0),
            (f"0 {LINE}\n1 app b,a a | - 0 -\n2 x", 1), (f"0 {LINE}\t1 {LINE}", 0),
            ("\n".join(f"{at} {LINE}" for at in range(8)), 7), ("\n".join(f"{at} {LINE}" for at in range(9)), 7),
            ("\n".join(f"{at} {LINE}" for at in range(7)) + "\n", 7), ("\n".join(f"{at} {LINE}" for at in range(6)) + "\nx\ny", 6),
        ]:
            self.assertEqual(told_error(parse_plan, text), (ParseError, line), text[:80])
            self.assertEqual(wrong_plan_line(text), line, text[:80])

    def test_seven_lines(self):
        plan = parse_plan("\n".join(f"{at} {LINE}" for at in range(7)))
        self.assertEqual(plan.moments(), list(range(7)))
        self.assertEqual(parse_plan(f"0 {LINE}\n{LAST} {LINE}").moments(), [0, LAST])

    def test_texts_with_one_sign_changed(self):
        for text in [f"9 {LINE}\n10 app b b | - 0 -", "0 app a a / b c d | v 1 v\n19 app - a / b a a | - 0 -"]:
            for other in changed(text):
                line = wrong_plan_line(other)
                if line is None:
                    self.assertEqual(format_plan(parse_plan(other)), other)
                else:
                    self.assertEqual(told_error(parse_plan, other), (ParseError, line), other)


class FleetTexts(unittest.TestCase):
    def made(self):
        calls = [("app", "b", "a", 5), ("abcdefgh", "c", "c", 0), ("app", "b", "a", 5)]
        return fleet_of(calls, c=(3, None, None), a=(2, 0, "c"), b=(1, None, "a"))

    def test_formatted(self):
        self.assertEqual(format_fleet(fleet=self.made()), FLEET_TEXT)
        self.assertEqual(format_fleet(Fleet()), "")
        great = fleet_of([("app", "k", "k", LONGEST)], k=(LONGEST, LONGEST, None))
        number = "1" + "0" * 30
        self.assertEqual(format_fleet(great), f"kind k gap {number} age {number} from -\ncall app k k life {number}")

    def test_parsed(self):
        self.assertEqual(parse_fleet(text=FLEET_TEXT), self.made())
        self.assertEqual(parse_fleet(""), Fleet())
        self.assertEqual(parse_fleet("kind kind gap 1 age - from -\ncall call kind kind life 0").calls(), [("call", "kind", "kind", 0)])

    def test_parsing_a_formatted_text_gives_it_back(self):
        source = random.Random(8)
        for _ in range(300):
            fleet = small_fleet(source, most=5, roles=("app", "web"))
            self.assertEqual(parse_fleet(format_fleet(fleet)), fleet)

    def test_values_that_are_no_texts(self):
        for value in [*NO_TEXTS, Fleet()]:
            self.assertEqual(told_error(parse_fleet, value), (ParseError, None))

    def test_the_first_wrong_line(self):
        kind, call = "kind k gap 3 age - from -", "call app k k life 2"
        kinds = [f"kind {name} gap 3 age - from -" for name in "abcdef"]
        for text, line in [
            ("\n", 0), (" ", 0), (f"{kind}\n", 1), (f"\n{kind}", 0), (f"{kind}\n\n{call}", 1), ("x", 0), ("kind", 0), ("call", 0),
            (f"{kind} ", 0), (f" {kind}", 0), ("kind  k gap 3 age - from -", 0), ("kind k gap 3 age - from", 0), ("kind k gap 3 from -", 0),
            ("kind k gap 0 age - from -", 0), ("kind k gap - age - from -", 0), ("kind k gap x age - from -", 0), ("kind k gap 03 age - from -", 0),
            ("kind k gap 3 age x from -", 0), ("kind k gap 3 age -1 from -", 0), ("kind k gap 3 age 00 from -", 0), ("kind k gap +3 age - from -", 0),
            (f"kind k gap {LONGEST + 1} age - from -", 0), (f"kind k gap 3 age {LONGEST + 1} from -", 0), ("kind k gap 3 age - from K", 0),
            ("kind K gap 3 age - from -", 0), ("kind - gap 3 age - from -", 0), ("kind k Gap 3 age - from -", 0), ("kind k age - gap 3 from -", 0),
            ("Kind k gap 3 age - from -", 0), ("kind abcdefghi gap 3 age - from -", 0), ("kind k gap 3 age - from abcdefghi", 0),
            (f"{kind}\ncall app k k", 1), (f"{kind}\ncall app k k life", 1), (f"{kind}\ncall app k k life -", 1), (f"{kind}\ncall app k k life -1", 1),
            (f"{kind}\ncall app k k life 02", 1), (f"{kind}\ncall app k k life {LONGEST + 1}", 1), (f"{kind}\ncall App k k life 2", 1),
            (f"{kind}\ncall app K k life 2", 1), (f"{kind}\ncall app k - life 2", 1), (f"{kind}\ncall app k k Life 2", 1), (f"{kind}\n{call} ", 1),
            (f"{kind}\ncall app  k k life 2", 1), (f"{kind}\n{kind}", 1), (f"{kinds[1]}\n{kinds[0]}", 1), (f"{kind}\n{call}\n{kinds[5]}", 2),
            (f"{kind}\n{call}\nkind l gap 3 age - from -", 2), ("\n".join(kinds), 5), ("\n".join([*kinds, "x"]), 5),
            ("\n".join([kind, *[call] * 7]), 7), ("\n".join([kind, *[call] * 6, kind]), 7), ("\n".join([*kinds[:5], "x"]), 5),
            (f"{kinds[0]}\n{kinds[2]}\n{kinds[1]}", 2), (f"{kinds[0]}\nkind aa gap 3 age - from -\n{kinds[0]}", 2),
            # Wrong lines go ahead of wrong names.
            ("kind a gap 1 age - from b\nx", 1), ("kind a gap 1 age - from a\ncall app b b life x", 1), ("call app k k life 2\n", 1),
        ]:
            self.assertEqual(told_error(parse_fleet, text), (ParseError, line), text)
            self.assertEqual(wrong_fleet_line(text), line, text)

    def test_names_that_do_not_fit(self):
        for text in [
            "kind a gap 1 age - from b", "kind a gap 1 age - from a", "call app k k life 2", "kind k gap 1 age - from -\ncall app k l life 2",
            "kind k gap 1 age - from -\ncall app l k life 2", "kind a gap 1 age - from b\nkind b gap 1 age - from a",
            "kind a gap 1 age - from b\nkind b gap 1 age - from c\nkind c gap 1 age - from b",
            "\n".join(f"kind {name} gap 1 age - from {source}" for name, source in zip("abcde", "-abcd")),
            "\n".join(f"kind {name} gap 1 age - from {source}" for name, source in zip("abcde", "bcde-")),
            "kind a gap 1 age - from c\nkind b gap 1 age - from -\ncall app b b life 0",
        ]:
            self.assertEqual(told_error(parse_fleet, text), (ParseError, -1), text)
            self.assertEqual(wrong_fleet_line(text), -1, text)

    def test_five_kinds_and_six_calls(self):
        for sources in ["-abc-", "bcd--", "-----", "eeeee", "-aaaa"]:
            lines = [f"kind {name} gap 1 age 0 from {source}" for name, source in zip("abcde", sources)]
            text = "\n".join(lines + [f"call app e a life {at}" for at in range(6)])
            expected = wrong_fleet_line(text)
            if expected is None:
                self.assertEqual(format_fleet(parse_fleet(text)), text)
            else:
                self.assertEqual([sources, told_error(parse_fleet, text)], ["eeeee", (ParseError, -1)])

    def test_texts_with_one_sign_changed(self):
        for text in ["kind a gap 2 age 0 from v\nkind v gap 19 age - from -\ncall app a v life 10", "kind a gap 1 age - from -\ncall a a a life 0"]:
            for other in changed(text):
                line = wrong_fleet_line(other)
                if line is None:
                    self.assertEqual(format_fleet(parse_fleet(other)), other)
                else:
                    self.assertEqual(told_error(parse_fleet, other), (ParseError, line), other)


class Examples(unittest.TestCase):
    def test_wrong_plan(self):
        self.assertEqual(told_error(parse_plan, "0 app a a | v 1 v\n0 app a a | v 1 v"), (ParseError, 1))

    def test_wrong_fleet(self):
        self.assertEqual(told_error(parse_fleet, "kind a gap 1 age - from b"), (ParseError, -1))
