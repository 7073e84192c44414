"""Promise [5] and the interface of gaplesskeys.contents."""

import copy
import itertools
import unittest

from gaplesskeys.contents import Contents
from gaplesskeys.errors import InvalidContents, InvalidKeys, UnknownName
from tests.helper import NO_INTEGERS, NO_WORDS, raised

EIGHT = ["h", "b", "a", "d", "c", "g", "f", "e"]
# What is no list or tuple of different keys, however many keys may be in it.
NO_KEYS = [
    True, False, 0, 1, "", "a", "ab", b"a", {}, {"a": 1}, {"a"}, set(), frozenset(), object(), len,
    ["a", "a"], ("a", "b", "a"), [["a"]], [("a",)], range(0), *[["a", value] for value in NO_WORDS],
]
ONE = {"app": (["a"], "a")}


def wide():
    """Contents with all that there may be of everything."""
    roles = {
        "web": (EIGHT, "h"),
        "app": (("c", "a"), "z"),
        "abcdefgh": ([], "zyxwvuts"),
    }
    return Contents(roles, ("w", "v", "y", "x"), needed=4, signers=["s", "v", "r", "q"])


def told(contents):
    """All that contents tell of themselves."""
    uses = [(role, contents.accepted(role), contents.used(role)) for role in contents.roles]
    return [uses, contents.vouchers, contents.needed, contents.signers, contents.all_keys()]


class Making(unittest.TestCase):
    def check(self, part, *args, **named):
        error = raised(Contents, *args, **named)
        self.assertIs(type(error), InvalidContents, (args, named))
        self.assertEqual(error.part, part, (args, named))

    def test_all_is_told_in_alphabetical_order(self):
        made = wide()
        self.assertEqual(made.roles, ["abcdefgh", "app", "web"])
        self.assertEqual([made.accepted(role) for role in made.roles], [[], ["a", "c"], sorted(EIGHT)])
        self.assertEqual([made.used(role) for role in made.roles], ["zyxwvuts", "z", "h"])
        self.assertEqual(made.vouchers, ["v", "w", "x", "y"])
        self.assertEqual(made.needed, 4)
        self.assertEqual(made.signers, ["q", "r", "s", "v"])

    def test_what_is_left_out(self):
        for made in [Contents(ONE, ["w", "v"]), Contents(ONE, ["w", "v"], signers=None)]:
            self.assertEqual([made.vouchers, made.needed, made.signers], [["v", "w"], 1, ["v", "w"]])
        self.assertEqual(Contents(ONE, []).signers, [])
        self.assertEqual(Contents(ONE, ["v"], signers=[]).signers, [])
        self.assertEqual(Contents(ONE, ["v"], signers=()).signers, [])

    def test_by_name_and_by_position(self):
        made = Contents(signers=["s"], needed=0, vouchers=["v"], roles=ONE)
        self.assertEqual(told(made), [[("app", ["a"], "a")], ["v"], 0, ["s"], ["a", "s", "v"]])
        self.assertIsInstance(raised(Contents, ONE, ["v"], 1), TypeError)
        self.assertIsInstance(raised(Contents, ONE), TypeError)

    def test_needed_numbers(self):
        for needed in range(5):
            self.assertEqual(Contents(ONE, [], needed=needed).needed, needed)
        for needed in [-1, 5, 10 ** 40, *NO_INTEGERS]:
            self.check("needed", ONE, [], needed=needed)

    def test_one_to_three_roles(self):
        use = (["a"], "a")
        for many in [1, 2, 3]:
            roles = {name: use for name in "zyx"[:many]}
            self.assertEqual(Contents(roles, []).roles, sorted(roles))
        self.check("roles", {}, [])
        self.check("roles", {name: use for name in "zyxw"}, [])

    def test_roles_that_are_no_dict(self):
        for roles in [*NO_INTEGERS, [("app", (["a"], "a"))], (("app", (["a"], "a")),), {"app"}, ["app"]]:
            self.check("roles", roles, [])

    def test_names_of_roles_that_are_no_words(self):
        for name in [value for value in NO_WORDS if not isinstance(value, (list, dict, set))]:
            self.check("roles", {name: (["a"], "a")}, [])
            self.check("roles", {"app": (["a"], "a"), name: (["a"], "a")}, [])

    def test_uses_that_are_no_pairs(self):
        for use in [*NO_INTEGERS, (["a"],), (["a"], "a", "a"), [["a"], "a"], "ab", {"a": "b", "c": "d"}, (["a"], "a", None)]:
            self.check("roles", {"app": use}, [])
            self.check("roles", {"app": (["a"], "a"), "web": use}, [])

    def test_accepted_keys(self):
        for accepted in [*NO_KEYS, None, EIGHT + ["i"], tuple(EIGHT + ["i"])]:
            self.check("roles", {"app": (accepted, "a")}, [])
        for many in range(9):
            made = Contents({"app": (tuple(EIGHT[:many]), "used")}, [])
            self.assertEqual(made.accepted("app"), sorted(EIGHT[:many]))

    def test_used_keys(self):
        for used in [*NO_WORDS, []]:
            self.check("roles", {"app": (["a"], used)}, [])
        for used in ["a", "b", "z", "abcdefgh", "zzzzzzzz"]:
            self.assertEqual(Contents({"app": (["a"], used)}, []).used("app"), used)

    def test_vouchers_and_signers(self):
        for keys in [*NO_KEYS, ["a", "b", "c", "d", "e"]]:
            self.check("vouchers", ONE, keys)
            self.check("signers", ONE, [], signers=keys)
        self.check("vouchers", ONE, None)
        for many in range(5):
            made = Contents(ONE, EIGHT[:many], signers=tuple(EIGHT[3:3 + many]))
            self.assertEqual(made.vouchers, sorted(EIGHT[:many]))
            self.assertEqual(made.signers, sorted(EIGHT[3:3 + many]))

    def test_the_first_wrong_part_is_told(self):
        right = {"roles": ONE, "vouchers": ["v"], "needed": 1, "signers": None}
        wrong = {"roles": {}, "vouchers": None, "needed": True, "signers": "v"}
        parts = list(right)
        for choice in itertools.product([False, True], repeat=4):
            values = {part: wrong[part] if bad else right[part] for part, bad in zip(parts, choice)}
            if any(choice):
                self.check(parts[choice.index(True)], **values)
            else:
                self.assertIsNone(raised(Contents, **values))

    def test_arguments_are_copied_and_not_changed(self):
        accepted, vouchers, signers = ["b", "a"], ["w", "v"], ["t", "s"]
        roles = {"web": (accepted, "a"), "app": (accepted, "b")}
        given = [roles, vouchers, signers]
        before = copy.deepcopy(given)
        made = Contents(roles, vouchers, signers=signers)
        self.assertEqual(given, before)
        self.assertEqual(list(roles), ["web", "app"])
        first = told(made)
        accepted.append("c")
        roles["more"] = (["a"], "a")
        vouchers.clear()
        signers[0] = "z"
        self.assertEqual(told(made), first)

    def test_signers_that_are_left_out_are_a_copy_of_the_vouchers(self):
        made = Contents(ONE, ["v"])
        made.signers.append("w")
        made.vouchers.append("x")
        self.assertEqual([made.vouchers, made.signers], [["v"], ["v"]])

    def test_returned_lists_are_new(self):
        made = wide()
        first = told(made)
        for values in [made.roles, made.vouchers, made.signers, made.accepted("app"), made.all_keys()]:
            values.append("new")
            values.sort(reverse=True)
        self.assertEqual(told(made), first)


class Asking(unittest.TestCase):
    def test_unknown_roles(self):
        made = wide()
        for role in [*NO_WORDS, "other", "a", "z", "ap"]:
            for error in [raised(made.accepted, role), raised(made.used, role)]:
                self.assertIs(type(error), UnknownName)
                self.assertIs(error.name, role)

    def test_roles_by_name(self):
        self.assertEqual(wide().accepted(role="app"), ["a", "c"])
        self.assertEqual(wide().used(role="app"), "z")

    def test_accepted_by_some_role(self):
        made = wide()
        for key in EIGHT:
            self.assertIs(key in made, True)
        for key in ["z", "zyxwvuts", "v", "s", "app", "i", "ab"]:
            self.assertIs(key in made, False)
        for value in [*NO_WORDS, *NO_INTEGERS[:3], ["a"], ("a", "c")]:
            self.assertIs(value in made, value == "a")

    def test_all_keys(self):
        expected = sorted({*EIGHT, *"ac", "z", "zyxwvuts", *"vwxy", *"qrsv"})
        self.assertEqual(wide().all_keys(), expected)
        self.assertEqual(Contents({"app": ([], "u")}, []).all_keys(), ["u"])
        self.assertEqual(Contents(ONE, ["v"], signers=["s"]).all_keys(), ["a", "s", "v"])
        self.assertEqual(Contents(ONE, ["a"]).all_keys(), ["a"])


class Comparing(unittest.TestCase):
    def test_the_order_of_what_was_given_does_not_matter(self):
        one = Contents({"app": (["a", "b"], "a"), "web": (("c",), "d")}, ["v", "w"], signers=["s", "t"])
        two = Contents({"web": (["c"], "d"), "app": (("b", "a"), "a")}, ("w", "v"), needed=1, signers=["t", "s"])
        self.assertIs(one == two, True)
        self.assertIs(one != two, False)

    def test_signers_told_or_left_out(self):
        self.assertEqual(Contents(ONE, ["v"]), Contents(ONE, ["v"], signers=["v"]))

    def test_each_part_matters(self):
        one = Contents(ONE, ["v"], needed=1, signers=["s"])
        for other in [
            Contents({"web": (["a"], "a")}, ["v"], signers=["s"]),
            Contents({"app": (["a"], "a"), "web": (["a"], "a")}, ["v"], signers=["s"]),
            Contents({"app": (["b"], "a")}, ["v"], signers=["s"]),
            Contents({"app": (["a", "b"], "a")}, ["v"], signers=["s"]),
            Contents({"app": (["a"], "b")}, ["v"], signers=["s"]),
            Contents(ONE, ["w"], signers=["s"]),
            Contents(ONE, [], signers=["s"]),
            Contents(ONE, ["v"], needed=0, signers=["s"]),
            Contents(ONE, ["v"], signers=["t"]),
            Contents(ONE, ["v"]),
        ]:
            self.assertIs(one == other, False)
            self.assertIs(other == one, False)
            self.assertIs(one != other, True)

    def test_no_other_value_is_equal(self):
        for value in [*NO_INTEGERS, *NO_WORDS, ONE, ["v"], (ONE, ["v"])]:
            self.assertIs(Contents(ONE, ["v"]) == value, False)
            self.assertIs(Contents(ONE, ["v"]) != value, True)


class Taking(unittest.TestCase):
    def test_as_many_signers_as_needed_among_the_vouchers(self):
        groups = [keys for many in range(5) for keys in itertools.combinations("stuvw", many)]
        for vouchers, signers, needed in itertools.product(groups, groups, range(5)):
            holder = Contents(ONE, vouchers, needed=needed, signers=["x"])
            other = Contents(ONE, ["y"], needed=4 - needed, signers=signers)
            self.assertIs(holder.takes(other), len(set(vouchers) & set(signers)) >= needed)

    def test_itself(self):
        self.assertTrue(Contents(ONE, []).takes(other=Contents(ONE, [])) is False)
        self.assertTrue(Contents(ONE, ["v"]).takes(Contents(ONE, ["v"])))
        self.assertFalse(Contents(ONE, ["v"], needed=2).takes(Contents(ONE, ["v"])))
        self.assertTrue(Contents(ONE, [], needed=0).takes(Contents(ONE, [])))

    def test_roles_do_not_matter(self):
        self.assertTrue(wide().revouched(needed=1).takes(Contents(ONE, ["y"])))


class Changing(unittest.TestCase):
    def test_accepted_and_used_keys_of_a_role(self):
        made = wide()
        first = told(made)
        other = made.changed("web", accepted=("l", "k"), used="m")
        self.assertEqual([other.accepted("web"), other.used("web")], [["k", "l"], "m"])
        self.assertEqual([other.accepted("app"), other.used("app")], [["a", "c"], "z"])
        self.assertEqual(told(other)[1:4], first[1:4])
        self.assertEqual(told(made), first)

    def test_what_none_leaves(self):
        made = wide()
        self.assertEqual(made.changed("web"), made)
        self.assertEqual(made.changed(role="web", accepted=None, used=None), made)
        self.assertEqual(made.changed("app", used="y").accepted("app"), ["a", "c"])
        self.assertEqual(made.changed("app", used="y").used("app"), "y")
        self.assertEqual(made.changed("app", accepted=[]).accepted("app"), [])
        self.assertEqual(made.changed("app", accepted=["y"]).used("app"), "z")
        self.assertIsInstance(raised(made.changed, "app", ["a"]), TypeError)

    def test_wrong_changes(self):
        made = wide()
        first = told(made)
        for accepted in [*NO_KEYS, EIGHT + ["i"]]:
            error = raised(made.changed, "app", accepted=accepted)
            self.assertEqual((type(error), error.part), (InvalidContents, "roles"))
        for used in [value for value in NO_WORDS if value is not None]:
            error = raised(made.changed, "app", used=used)
            self.assertEqual((type(error), error.part), (InvalidContents, "roles"))
        for role in [*NO_WORDS, "other"]:
            error = raised(made.changed, role, accepted="a", used="A")
            self.assertIs(type(error), UnknownName)
            self.assertIs(error.name, role)
        self.assertEqual(told(made), first)

    def test_changed_contents_keep_their_own_lists(self):
        accepted = ["k"]
        other = wide().changed("app", accepted=accepted)
        accepted.append("l")
        self.assertEqual(other.accepted("app"), ["k"])

    def test_revouched(self):
        made = wide()
        first = told(made)
        other = made.revouched(vouchers=["l", "k"], needed=0, signers=("n", "m"))
        self.assertEqual(told(other)[:4], [first[0], ["k", "l"], 0, ["m", "n"]])
        self.assertEqual(told(made), first)

    def test_what_none_leaves_of_the_vouchers(self):
        made = wide()
        self.assertEqual(made.revouched(), made)
        self.assertEqual(made.revouched(vouchers=None, needed=None, signers=None), made)
        self.assertEqual(told(made.revouched(vouchers=[]))[1:4], [[], 4, ["q", "r", "s", "v"]])
        self.assertEqual(told(made.revouched(needed=0))[1:4], [["v", "w", "x", "y"], 0, ["q", "r", "s", "v"]])
        self.assertEqual(told(made.revouched(signers=[]))[1:4], [["v", "w", "x", "y"], 4, []])
        self.assertIsInstance(raised(made.revouched, ["v"]), TypeError)

    def test_signers_that_were_left_out_stay(self):
        for made in [Contents(ONE, ["v"]), Contents(ONE, ["v"], signers=None)]:
            self.assertEqual(made.revouched(vouchers=["w"]).signers, ["v"])
            self.assertEqual(made.changed("app", used="b").revouched(vouchers=["w"]).signers, ["v"])
            self.assertEqual(made.revouched(vouchers=["w"]).revouched(vouchers=["x"]).signers, ["v"])

    def test_wrong_vouchers_needed_and_signers(self):
        made = wide()
        first = told(made)
        wrong = {"vouchers": ["v", "v"], "needed": True, "signers": "v"}
        for choice in itertools.product([False, True], repeat=3):
            values = {part: wrong[part] for part, bad in zip(wrong, choice) if bad}
            if values:
                error = raised(made.revouched, **values)
                self.assertEqual((type(error), error.part), (InvalidContents, list(values)[0]))
        for keys in [*NO_KEYS, ["a", "b", "c", "d", "e"]]:
            self.assertEqual(raised(made.revouched, vouchers=keys).part, "vouchers")
            self.assertEqual(raised(made.revouched, signers=keys).part, "signers")
        for needed in [-1, 5, *[value for value in NO_INTEGERS if value is not None]]:
            self.assertEqual(raised(made.revouched, needed=needed).part, "needed")
        self.assertEqual(told(made), first)


class Losing(unittest.TestCase):
    def test_lost_keys_are_left_out_of_all_but_the_used_ones(self):
        made = wide()
        first = told(made)
        other = made.without(["a", "h", "z", "v", "s", "unknown"])
        self.assertEqual(other.accepted("web"), ["b", "c", "d", "e", "f", "g"])
        self.assertEqual([other.accepted("app"), other.accepted("abcdefgh")], [["c"], []])
        self.assertEqual([other.used(role) for role in other.roles], ["zyxwvuts", "z", "h"])
        self.assertEqual([other.vouchers, other.needed, other.signers], [["w", "x", "y"], 4, ["q", "r"]])
        self.assertEqual(told(made), first)

    def test_all_or_no_keys_lost(self):
        made = Contents(ONE, ["v"])
        self.assertEqual(made.without([]), made)
        bare = made.without(made.all_keys())
        self.assertEqual(told(bare), [[("app", [], "a")], [], 1, [], ["a"]])
        self.assertEqual(made.without(lost=["w", "w"]), made)
        self.assertEqual(made.without(["v", "v"]).signers, [])

    def test_values_that_are_no_list_of_keys(self):
        made = wide()
        for lost in [*NO_INTEGERS, "a", ("a",), {"a"}, {"a": 1}, *[["a", value] for value in NO_WORDS]]:
            if lost != []:
                error = raised(made.without, lost)
                self.assertIs(type(error), InvalidKeys)
                self.assertIs(error.value, lost)

    def test_the_list_is_not_changed(self):
        lost = ["v", "a", "v"]
        wide().without(lost)
        self.assertEqual(lost, ["v", "a", "v"])


class Examples(unittest.TestCase):
    def test_changed_and_revouched(self):
        one = Contents({"app": (["b", "a"], "a")}, ["v", "w"], signers=["v"])
        two = one.changed("app", used="b").revouched(signers=["w"])
        found = [one.accepted("app"), two.used("app"), one.takes(two), two.without(["w"]).signers, one.all_keys()]
        self.assertEqual(found, [["a", "b"], "b", True, [], ["a", "b", "v", "w"]])

    def test_wrong_used_key(self):
        error = raised(Contents, {"app": ([], "A")}, [])
        self.assertIs(type(error), InvalidContents)
        self.assertEqual(error.part, "roles")
