"""The interface of the document: its names, where they are defined, and what they take."""

import importlib
import inspect
import unittest

# Below each module its functions, and its classes with their methods, as the
# document lists them. Properties stand without parentheses.
INTERFACE = """
ranges
    Range(first, last)
        empty() parsed(text) first last is_endless size covers(other) is_before(other) joined(other)
contents
    Contents(roles, vouchers, *, needed=1, signers=None)
        roles vouchers signers needed accepted(role) used(role) takes(other) all_keys()
        changed(role, *, accepted=None, used=None) revouched(*, vouchers=None, needed=None, signers=None) without(lost)
plans
    Plan(editions)
        moment_of(number) contents_of(number) moments() current(moment) add(moment, contents) drop() twin() cut(number)
        changed_by(visitor)
fleets
    Kind(*, gap, age=None, source=None)
        gap age source change(name, value)
    Fleet()
        names() chain(kind) lateness(kind) add_call(role, client, server, *, life=0) calls()
machines
    World(plan, fleet, run)
        held(machine, moment) lockout(machine) answers()
    is_run(plan, fleet, candidate)
holding
    held_range(plan, fleet, kind, number)
    held_by(plan, fleet, kind, moment)
    jumps(plan, fleet, kind)
    lockouts(plan, fleet)
    held_run(plan, fleet, kind, number, moment)
    jump_run(plan, fleet, kind, early, late)
calls
    meetings(plan, fleet, call)
    refusals(plan, fleet)
    is_faultless(plan, fleet)
    meeting_run(plan, fleet, call, early, late)
tables
    find_table(plan, fleet)
    is_table(plan, fleet, candidate)
days
    accepted_ranges(plan, fleet, role, key)
    late(plan, fleet, days)
    late_run(plan, fleet, days, candidate)
    outlived(plan, fleet, lives)
earliest
    rules(contents, fleet, *, start=0, days=None, lives=None)
    earliest(contents, fleet, *, start=0, days=None, lives=None)
    latest(contents, fleet, *, start=0, days=None, lives=None)
    find_ring(contents, fleet, *, start=0, days=None, lives=None)
    is_ring(contents, fleet, candidate, *, start=0, days=None, lives=None)
    satisfies(contents, fleet, moments, *, start=0, days=None, lives=None)
    plan_of(contents, moments)
undoing
    renewed_faults(plan, fleet, number, contents, moment)
    undo_faults(plan, fleet, number)
    is_undoable(plan, fleet)
    first_stuck(plan, fleet)
    undone(plan, number, moment)
losses
    core(plan, fleet, number, role)
    emergency(plan, fleet, number, lost)
    harms(plan, fleet, number, lost, moment)
    is_ready(plan, fleet, size)
    unready(plan, fleet, size)
    fewest_spares(plan, fleet, size)
    with_spares(plan, role, spares)
    forgeable(plan, size)
    exposure(plan, fleet, number, lost, moment)
fewest
    get_along(first, last, fleet, *, undoable=False)
    KeyLimit(most)
        most
    fewest(first, last, menu, fleet, *, undoable=False, allowed=None)
    labels(first, last, menu, fleet, *, undoable=False, allowed=None)
    are_labels(first, last, menu, fleet, candidate, *, undoable=False, allowed=None)
live
    Publisher(fleet, services, contents, moment)
        resumed(fleet, services, plan, moment) now published wait(moment) report(name, moment) reports(name)
        last_held(name, number) earliest(contents) publish(contents)
journal
    Journal()
        recovered(text) text pending begin(moment, contents) done(moment) entry(number) plan()
texts
    format_contents(contents)
    format_plan(plan)
    format_fleet(fleet)
    parse_contents(text)
    parse_plan(text)
    parse_fleet(text)
console
    Console()
        run(command)
"""
# Methods for signs and the like, which stand in the class itself as well.
SIGNS = {
    "Range": "str eq and lt le gt ge contains bool add radd sub", "Contents": "eq contains",
    "Plan": "len getitem setitem eq", "Kind": "eq", "Fleet": "setitem getitem contains len eq", "KeyLimit": "call",
}
CLASS_METHODS = ["empty", "parsed", "resumed", "recovered"]


def entries():
    """Each entry with its module and, for what a class has, its class."""
    module = made = None
    for row in INTERFACE.strip().split("\n"):
        depth, text = (len(row) - len(row.lstrip())) // 4, row.strip()
        if depth == 0:
            module = importlib.import_module(f"gaplesskeys.{text}")
        elif depth == 1:
            made = text.split("(")[0]
            yield module, None, text
        else:
            # The commas of parameters stand ahead of blanks.
            for part in text.replace(", ", ",").split(" "):
                yield module, getattr(module, made), part.replace(",", ", ")


def parameters(call, is_bound):
    """What a function takes, as it is written, without the object of a method."""
    found = list(inspect.signature(call).parameters.values())[1 if is_bound else 0:]
    return str(inspect.Signature(found))


class Interface(unittest.TestCase):
    def test_functions_and_classes(self):
        for module, made, text in entries():
            if made is None:
                name = text.split("(")[0]
                self.assertEqual(getattr(module, name).__module__, module.__name__)
                self.assertEqual(parameters(getattr(module, name), False), text[len(name):])

    def test_methods_and_properties_stand_in_the_class_itself(self):
        for _, made, text in entries():
            if made is None:
                continue
            name = text.split("(")[0]
            self.assertIn(name, vars(made), made)
            if "(" not in text:
                self.assertIsInstance(vars(made)[name], property)
                continue
            self.assertIs(isinstance(vars(made)[name], classmethod), name in CLASS_METHODS)
            self.assertEqual(parameters(getattr(made, name), name not in CLASS_METHODS), text[len(name):])

    def test_signs(self):
        for module, made, text in entries():
            if made is None and text.split("(")[0] in SIGNS:
                name = text.split("(")[0]
                for sign in SIGNS[name].split():
                    self.assertIn(f"__{sign}__", vars(getattr(module, name)), name)

    def test_all_are_listed(self):
        self.assertEqual(len(list(entries())), 117)
