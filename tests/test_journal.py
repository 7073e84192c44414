"""Promises [27] and [3] (i), and the interface of gaplesskeys.journal."""

import itertools
import random
import re
import unittest

from gaplesskeys.contents import Contents
from gaplesskeys.errors import (
    InvalidContents, InvalidMoment, LimitExceeded, ParseError, Pending, TooSoon, UnknownEdition,
)
from gaplesskeys.journal import Journal
from gaplesskeys.live import Publisher
from gaplesskeys.plans import Plan
from tests.helper import (
    LAST, NO_CONTENTS, NO_INTEGERS, NO_MOMENTS, contents, near_contents, plan_of, raised, told_error,
)
from tests.live_model import faults_between, services_of
from tests.model import Line
from tests.test_live import next_contents, some_services
from tests.test_texts import NUMBER, changed, is_contents_line

C0, C1, C2, C3 = [contents(*keys, vouchers="v", needed=1) for keys in ["a", ("ab", "a"), ("ab", "b"), "b"]]
TWO = Contents({"app": (["a"], "a"), "web": (["a"], "a")}, [], needed=0)
TEXT = "begin 0 3 app a a | v 1 v\ndone 0 4\nbegin 1 6 app a,b a | v 1 v\ndone 1 6\nbegin 2 7 app a,b b | v 1 v\n"


def state(book):
    """All that can be asked of a journal."""
    many = len([number for number in range(9) if told_error(book.entry, number) is None])
    return [book.text, book.pending, [book.entry(number) for number in range(many)], book.plan()]


def written(many, pending=False):
    """A journal of so many editions that are done, and perhaps a pending one."""
    book = Journal()
    for number in range(many):
        book.begin(3 * number, C0)
        book.done(3 * number + 1)
    if pending:
        book.begin(3 * many, C1)
    return book


def wrong_journal_line(text):
    """The number of the first wrong line of a journal by the words of [27], or None."""
    begun, done, roles = [], [-1], None
    for number, line in enumerate(text.split("\n")[:-1]):
        found = re.fullmatch(f"(begin|done) ({NUMBER}) ({NUMBER})(?: (.*))?", line, re.DOTALL)
        if not found or len(found[3]) > 60 or int(found[3]) > LAST:
            return number
        word, told, moment, rest = found[1], found[2], int(found[3]), found[4]
        is_pending = len(begun) == len(done)
        if told != str(len(begun) - is_pending) or (word == "done") != is_pending or (rest is None) != is_pending:
            return number
        if is_pending:
            if moment < begun[-1]:
                return number
            done.append(moment)
            continue
        if len(begun) == 7 or moment <= done[-1] or not is_contents_line(rest):
            return number
        names = [use.split(" ")[0] for use in rest.split(" | ")[0].split(" / ")]
        if roles not in (None, names):
            return number
        begun.append(moment)
        roles = names
    return None


def rewritten(book):
    """A journal on which the same is called that the lines of one tell."""
    again = Journal()
    for line in book.text.split("\n")[:-1]:
        word, number, moment, *_ = line.split(" ")
        if word == "begin":
            again.begin(int(moment), book.entry(int(number)))
        else:
            again.done(int(moment))
    return again


class Writing(unittest.TestCase):
    def test_an_empty_journal(self):
        book = Journal()
        self.assertEqual(state(book), ["", None, [], None])

    def test_lines(self):
        book = Journal()
        self.assertEqual(book.begin(3, C0), 0)
        self.assertEqual(state(book), ["begin 0 3 app a a | v 1 v\n", 0, [C0], None])
        self.assertEqual(book.done(4), 0)
        self.assertEqual(state(book), ["begin 0 3 app a a | v 1 v\ndone 0 4\n", None, [C0], plan_of((4, C0))])
        self.assertEqual(book.begin(moment=6, contents=C1), 1)
        self.assertEqual(book.done(moment=6), 1)
        self.assertEqual(book.begin(7, C2), 2)
        self.assertEqual(state(book), [TEXT, 2, [C0, C1, C2], plan_of((4, C0), (6, C1))])
        self.assertEqual(book.entry(number=2), C2)

    def test_moments(self):
        book = Journal()
        book.begin(0, C0)
        book.done(0)
        book.begin(1, C0)
        book.done(LAST - 1)
        book.begin(LAST, C0)
        book.done(LAST)
        self.assertEqual(book.plan().moments(), [0, LAST - 1, LAST])
        self.assertEqual(book.text.split("\n")[4:], [f"begin 2 {LAST} app a a | - 0 -".replace("- 0 -", "v 1 v"), f"done 2 {LAST}", ""])

    def test_seven_editions(self):
        book = written(7)
        self.assertEqual([len(book.plan()), book.pending, len(book.text.split("\n"))], [7, None, 15])
        self.assertEqual(book.entry(6), C0)

    def test_a_new_plan_each_time(self):
        book = written(2)
        book.plan().drop()
        book.plan().add(99, C1)
        self.assertEqual(book.plan(), plan_of((1, C0), (4, C0)))

    def test_contents_with_several_roles(self):
        book = Journal()
        book.begin(5, TWO)
        self.assertEqual(book.text, "begin 0 5 app a a / web a a | - 0 -\n")
        self.assertEqual(state(Journal.recovered(book.text)), state(book))


class Errors(unittest.TestCase):
    def test_pending_comes_first(self):
        for many in [0, 1, 6]:
            book = written(many, pending=True)
            before = state(book)
            for arguments in [(99, C1), (None, None), (0, C1)]:
                self.assertEqual(told_error(book.begin, *arguments), (Pending, many))
                self.assertEqual(state(book), before)

    def test_moments_come_next(self):
        for many in [0, 2, 7]:
            book = written(many)
            before = state(book)
            for moment in [*NO_MOMENTS, *([0, 3 * many - 3, 3 * many - 2] if many else [])]:
                for item in [C0, None, TWO]:
                    error = raised(book.begin, moment, item)
                    self.assertIs(type(error), InvalidMoment)
                    self.assertIs(error.value, moment)
                    self.assertEqual(state(book), before)
        self.assertEqual(written(2).begin(5, C0), 2)
        self.assertEqual(Journal().begin(0, C0), 0)

    def test_contents_come_next(self):
        for many in [0, 2, 7]:
            book = written(many)
            before = state(book)
            for item in [*NO_CONTENTS, *([contents(role="web"), TWO] if many else [])]:
                self.assertEqual(told_error(book.begin, 99, item), (InvalidContents, None))
                self.assertEqual(state(book), before)

    def test_the_limit_comes_last(self):
        book = written(7)
        before = state(book)
        self.assertEqual(told_error(book.begin, 99, C0), (LimitExceeded, 7))
        self.assertEqual(state(book), before)
        self.assertIsNone(told_error(written(6).begin, 99, C0))

    def test_done(self):
        for many in [0, 3, 7]:
            book = written(many)
            before = state(book)
            for moment in [99, None]:
                self.assertEqual(told_error(book.done, moment), (UnknownEdition, None))
                self.assertEqual(state(book), before)
        book = written(2, pending=True)
        before = state(book)
        for moment in [*NO_MOMENTS, 0, 4, 5]:
            error = raised(book.done, moment)
            self.assertIs(type(error), InvalidMoment)
            self.assertIs(error.value, moment)
            self.assertEqual(state(book), before)
        self.assertEqual(book.done(6), 2)

    def test_entries(self):
        for book, many in [(Journal(), 0), (written(2), 2), (written(2, pending=True), 3)]:
            for number in [*NO_INTEGERS, -1, many, 7]:
                error = raised(book.entry, number)
                self.assertIs(type(error), UnknownEdition)
                self.assertIs(error.number, number)
            for number in range(many):
                self.assertIsNone(told_error(book.entry, number))


class Recovering(unittest.TestCase):
    def test_whole_lines(self):
        book = Journal.recovered(TEXT)
        self.assertIs(type(book), Journal)
        self.assertEqual(state(book), [TEXT, 2, [C0, C1, C2], plan_of((4, C0), (6, C1))])
        self.assertEqual(state(Journal.recovered("")), state(Journal()))
        self.assertEqual(state(Journal.recovered(text=written(7).text)), state(written(7)))

    def test_what_follows_the_last_line_feed_does_not_count(self):
        for rest in ["d", "done 2", "done 2 9", "begin 3 9 app a a | v 1 v", "nonsense", " ", "\t", "-"]:
            self.assertEqual(state(Journal.recovered(TEXT + rest)), state(Journal.recovered(TEXT)))
            self.assertEqual(state(Journal.recovered(rest)), state(Journal()))

    def test_it_goes_on(self):
        book = Journal.recovered(TEXT + "done")
        self.assertEqual(told_error(book.begin, 9, C3), (Pending, 2))
        self.assertEqual(book.done(9), 2)
        self.assertEqual(told_error(book.begin, 9, C3), (InvalidMoment, 9))
        self.assertEqual(told_error(book.begin, 10, TWO), (InvalidContents, None))
        self.assertEqual(book.begin(10, C3), 3)
        self.assertEqual(book.text, TEXT + "done 2 9\nbegin 3 10 app b b | v 1 v\n")

    def test_values_that_are_no_strings(self):
        for value in [*[value for value in NO_INTEGERS if not isinstance(value, str)], 0, b"", TEXT.encode(), [TEXT], Journal()]:
            self.assertEqual(told_error(Journal.recovered, value), (ParseError, None))

    def test_lines_that_are_not_of_their_form(self):
        for line in [
            "", " ", "begin", "done", "begin 2", "done 2", "begin 2 9", "done 2 9 ", " done 2 9", "done  2 9", "done 2  9", "done 02 9",
            "done 2 09", "done 2 +9", "done 2 -9", "done 2 9.0", "done 2 9 9", "done\t2 9", "Done 2 9", "done two 9", "done 2 nine",
            "done 2 9\r", "end 2 9", "done 2", "2 done 9", "done 2 " + "9" * 5000, "done " + "2" * 5000 + " 9", "done 2 " + "1" * 61,
            "done 1 9", "done 3 9", "done -2 9", "done 2 6", "done 2 5", f"done 2 {LAST + 1}", "begin 2 9 app a a | v 1 v",
            "begin 3 9 app a a | v 1 v", "plan", "done 2 9;", "done 2 \u0669",
        ]:
            self.assertEqual(told_error(Journal.recovered, TEXT + line + "\n"), (ParseError, 5), line)
            self.assertEqual(wrong_journal_line(TEXT + line + "\n"), 5, line)
        for moment in [7, 8, LAST]:
            self.assertEqual(Journal.recovered(TEXT + f"done 2 {moment}\n").plan().moments(), [4, 6, moment])
        done = TEXT + "done 2 9\n"
        for line in [
            "begin 3 10", "begin 3 10 ", "begin 3 10 app", "begin 3 10 app a a | v 1", "begin 3 10 app a a | v 1 v v", "begin 3 10  app a a | v 1 v",
            "begin 3 10 app b,a a | v 1 v", "begin 3 10 app a a | v 01 v", "begin 3 10 app a a | v 5 v", "begin 3 10 web a a | v 1 v",
            "begin 3 10 app a a / web a a | v 1 v", "begin 3 10 app a a | v 1 v ", " begin 3 10 app a a | v 1 v", "begin 03 10 app a a | v 1 v",
            "begin 3 010 app a a | v 1 v", "begin 2 10 app a a | v 1 v", "begin 4 10 app a a | v 1 v", "begin 3 9 app a a | v 1 v",
            "begin 3 4 app a a | v 1 v", f"begin 3 {LAST + 1} app a a | v 1 v", "begin 3 -1 app a a | v 1 v", "done 3 10", "done 2 9", "done 2 10",
            "begin 3 10 - | v 1 v", "begin 3 app a a | v 1 v", "begin 10 app a a | v 1 v", "", "begin three 10 app a a | v 1 v",
            "begin 3 " + "1" * 61 + " app a a | v 1 v", "begin 3 " + "9" * 5000 + " app a a | v 1 v",
        ]:
            self.assertEqual(told_error(Journal.recovered, done + line + "\n"), (ParseError, 6), line)
            self.assertEqual(wrong_journal_line(done + line + "\n"), 6, line)
        self.assertEqual(Journal.recovered(done + "begin 3 10 app a a | v 1 v\n").pending, 3)

    def test_the_first_wrong_line(self):
        lines = TEXT.split("\n")[:-1]
        for at in range(5):
            wrong = lines[:at] + ["wrong"] + lines[at + 1:]
            self.assertEqual(told_error(Journal.recovered, "\n".join([*wrong, ""])), (ParseError, at))
            self.assertEqual(told_error(Journal.recovered, "\n".join([*wrong, "wrong", ""])), (ParseError, at))
            without = lines[:at] + lines[at + 1:]
            if at < 4:
                self.assertEqual(told_error(Journal.recovered, "\n".join([*without, ""])), (ParseError, at))
            twice = lines[:at + 1] + lines[at:]
            self.assertEqual(told_error(Journal.recovered, "\n".join([*twice, ""])), (ParseError, at + 1))
        self.assertEqual(told_error(Journal.recovered, "\n"), (ParseError, 0))
        self.assertEqual(told_error(Journal.recovered, "\n" + TEXT), (ParseError, 0))
        self.assertEqual(told_error(Journal.recovered, TEXT + "\n"), (ParseError, 5))

    def test_an_eighth_edition(self):
        text = written(7).text
        self.assertEqual(told_error(Journal.recovered, text + "begin 7 99 app a a | v 1 v\n"), (ParseError, 14))
        self.assertEqual(Journal.recovered(text + "begin 7 99 app a a | v 1 v").text, text)

    def test_texts_with_one_sign_changed(self):
        for whole in [TEXT + "done 2 9\n", TEXT, "begin 0 9 app a a / b c d | v 1 v\ndone 0 10\nbegin 1 19 app - a / b a a | - 0 -\n"]:
            for text in changed(whole):
                line = wrong_journal_line(text)
                if line is not None:
                    self.assertEqual(told_error(Journal.recovered, text), (ParseError, line), text)
                    continue
                book = Journal.recovered(text)
                self.assertEqual(book.text, text[:text.rfind("\n") + 1])
                self.assertEqual(state(rewritten(book)), state(book))


class Falls(unittest.TestCase):
    def test_cut_at_any_place(self):
        source = random.Random(27)
        for _ in range(25):
            begun, done, text, pieces = [], [], "", Journal()
            for item in near_contents(source, source.randint(1, 7)):
                moment = done[-1] + source.randint(1, 5) if done else source.randint(0, 5)
                pieces.begin(moment, item)
                begun.append((len(pieces.text), item))
                done.append(moment + source.randint(0, 3))
                pieces.done(done[-1])
                begun[-1] += (len(pieces.text), done[-1])
            text = pieces.text
            for cut in range(len(text) + 1):
                book = Journal.recovered(text[:cut])
                self.assertEqual(book.text, text[:text.rfind("\n", 0, cut) + 1])
                items = [item for end, item, _, _ in begun if end <= cut]
                editions = [(moment, item) for _, item, end, moment in begun if end <= cut]
                self.assertEqual(book.plan(), Plan(editions) if editions else None)
                self.assertEqual([book.entry(number) for number in range(len(items))], items)
                self.assertEqual(book.pending, len(editions) if len(items) > len(editions) else None)
                if book.pending is not None:
                    # The pending edition is published with the contents that were begun.
                    self.assertEqual(book.done(LAST), len(editions))
                    self.assertEqual(book.plan().contents_of(len(editions)), items[-1])

    def test_a_publisher_that_is_resumed_makes_no_faults(self):
        source, editions = random.Random(28), 0
        for _ in range(50):
            fleet, names = some_services(source, "stu")
            book = Journal()
            start = source.randint(0, 2)
            book.begin(start, contents("a", vouchers="v", needed=1))
            book.done(start)
            live = Publisher(fleet, names, book.entry(0), start)
            reports = {name: [] for name in names}
            for _ in range(14):
                live.wait(live.now + source.choice([1, 1, 2, 3]))
                for name in names:
                    moment = live.now - 1
                    if source.random() < 0.5 and moment >= start and moment not in reports[name]:
                        live.report(name, moment)
                        reports[name].append(moment)
                item = next_contents(source, live.published)
                if live.earliest(item) == live.now and len(live.published) < 7:
                    book.begin(live.now, item)
                    # A fall behind the begin line: the edition is published when that is allowed.
                    if source.random() < 0.5:
                        book = Journal.recovered(book.text + "done"[:source.randint(0, 4)])
                        live = Publisher.resumed(fleet, names, book.plan(), live.now)
                        moment = live.earliest(book.entry(book.pending))
                        live.wait(max(moment, live.now))
                    live.publish(book.entry(book.pending))
                    book.done(live.now)
                elif source.random() < 0.3:
                    book = Journal.recovered(book.text + "begin 9")
                    live = Publisher.resumed(fleet, names, book.plan(), live.now)
            self.assertEqual(book.plan(), live.published)
            plan, until = book.plan(), live.now + 14
            line = Line(plan.moments(), [plan.contents_of(n) for n in range(len(plan))])
            # The reports that were lost are true as well.
            found = services_of(line, {name: fleet[names[name]] for name in names}, reports, live.now, until)
            self.assertEqual(faults_between(found, names, line, fleet.calls(), until), set())
            editions += len(plan)
        self.assertGreater(editions, 150)

    def test_too_soon_behind_a_fall(self):
        fleet, names = some_services(random.Random(1), "s")
        book = Journal.recovered(written(2).text)
        live = Publisher.resumed(fleet, names, book.plan(), 4)
        self.assertEqual(told_error(live.publish, C0), (TooSoon, 5))


class Orders(unittest.TestCase):
    def test_all_orders_of_calls(self):
        # Whatever is called in whatever order, the text is that of a journal.
        calls = [("begin", 3, C0), ("begin", 5, C1), ("done", 3), ("done", 6)]
        for order in itertools.product(calls, repeat=4):
            book = Journal()
            for name, *arguments in order:
                before = state(book)
                if raised(getattr(book, name), *arguments) is not None:
                    self.assertEqual(state(book), before)
            self.assertEqual(state(Journal.recovered(book.text)), state(book))
