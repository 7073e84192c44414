"""Promise [4] and the interface of gaplesskeys.ranges."""

import itertools
import re
import unittest

from gaplesskeys.errors import InvalidMoment, InvalidRange, ParseError
from gaplesskeys.ranges import Range
from tests.helper import NO_INTEGERS, raised

TOP = 10 ** 60 - 1
# Small ranges lie within -4..4, so a window from -9 to 9 tells all of them.
WINDOW = list(range(-9, 10))
ENDS = [(first, last) for first in range(-3, 4) for last in [*range(-4, 5), None]]
BIG_ENDS = [
    (-TOP, TOP), (-TOP, None), (TOP, None), (TOP, TOP), (-TOP, -TOP), (0, TOP), (-TOP, 0),
    (10 ** 59, 10 ** 59 + 5), (-10 ** 59, 10 ** 40), (10 ** 40, None), (TOP, TOP - 1), (TOP, -TOP),
]


def moments(first, last):
    """The moments of a small range within the window."""
    return {m for m in WINDOW if first <= m and (last is None or m <= last)}


def place(first, last):
    """What orders ranges by the words of the interface."""
    if last is not None and last < first:
        return (0,)
    return (1, first, last is None, 0 if last is None else last)


def seen(made):
    """The moments of a range within the window, asked one by one."""
    return {m for m in WINDOW if m in made}


def pairs():
    for one, two in itertools.product(ENDS, ENDS):
        yield one, two, Range(*one), Range(*two)


class Making(unittest.TestCase):
    def test_properties(self):
        for first, last in ENDS + BIG_ENDS:
            made = Range(first, last)
            is_empty = last is not None and last < first
            self.assertEqual(made.first, None if is_empty else first)
            self.assertEqual(made.last, None if is_empty else last)
            self.assertIs(made.is_endless, last is None)
            size = 0 if is_empty else None if last is None else last - first + 1
            self.assertEqual(made.size, size)
            self.assertIs(bool(made), not is_empty)

    def test_by_name(self):
        self.assertEqual(Range(last=9, first=3), Range(3, 9))
        self.assertTrue(Range(last=None, first=3).is_endless)
        self.assertIsInstance(raised(Range, 3), TypeError)

    def test_empty(self):
        empty = Range.empty()
        self.assertEqual([empty.first, empty.last, empty.size], [None, None, 0])
        self.assertIs(empty.is_endless, False)
        self.assertIs(bool(empty), False)

    def test_wrong_first(self):
        for value in NO_INTEGERS:
            for last in [3, None, "x", True]:
                error = raised(Range, value, last)
                self.assertIs(type(error), InvalidRange, repr(last))
                self.assertIs(error.value, value)

    def test_wrong_last(self):
        for value in NO_INTEGERS:
            if value is not None:
                error = raised(Range, 3, value)
                self.assertIs(type(error), InvalidRange)
                self.assertIs(error.value, value)

    def test_the_first_wrong_end_is_told(self):
        self.assertIs(raised(Range, True, False).value, True)
        self.assertIs(raised(Range, last=10 ** 60, first=None).value, None)

    def test_sixty_digits_and_one_more(self):
        self.assertEqual(Range(TOP, TOP).first, TOP)
        self.assertEqual(Range(-TOP, -TOP).last, -TOP)
        self.assertEqual(raised(Range, TOP + 1, None).value, TOP + 1)
        self.assertEqual(raised(Range, -TOP - 1, None).value, -TOP - 1)
        self.assertEqual(raised(Range, 0, TOP + 1).value, TOP + 1)
        self.assertEqual(raised(Range, 0, -TOP - 1).value, -TOP - 1)


class Texts(unittest.TestCase):
    def test_written(self):
        self.assertEqual(str(Range(3, 9)), "3 9")
        self.assertEqual(str(Range(-12, -3)), "-12 -3")
        self.assertEqual(str(Range(0, None)), "0 -")
        self.assertEqual(str(Range(-5, None)), "-5 -")
        self.assertEqual(str(Range(7, 7)), "7 7")
        self.assertEqual(str(Range(7, 6)), "empty")
        self.assertEqual(str(Range(-TOP, TOP)), "-" + "9" * 60 + " " + "9" * 60)

    def test_parsing_a_written_range_gives_it_back(self):
        for ends in ENDS + BIG_ENDS:
            made = Range(*ends)
            again = Range.parsed(text=str(made))
            self.assertEqual(again, made)
            self.assertEqual([again.first, again.last, again.size], [made.first, made.last, made.size])

    def test_texts_that_are_none(self):
        for text in [
            "", " ", "-", "--", "- -", "3", "3 ", " 3", "3  9", "3 9 ", " 3 9", "3 9\n", "\n3 9",
            "3\t9", "3 9 12", "03 9", "3 09", "+3 9", "-0 9", "-3 -0", "--3 9", "3 --", "3 9-", "9 3",
            "3 2", "0 -1", "-3 -4", "Empty", "EMPTY", "empty ", " empty", "emptyempty", "- 3", "3_0 40",
            "3 4_0", "3,9", "3.0 9", "0x3 9", "None 3", "3 None", "a b", "3 a", "a 3", "3 empty",
            "3 1" + "0" * 60, "-1" + "0" * 60 + " 3", "0" * 5000 + " 3", "3 " + "9" * 5000,
            "\u0663 9", "3 \u00b2", "\ud800 3", "3\u00a09",
        ]:
            error = raised(Range.parsed, text)
            self.assertIs(type(error), ParseError, text)
            self.assertEqual(error.line, 0)

    def test_values_that_are_no_text(self):
        for value in [None, True, False, 0, 3, b"3 9", b"empty", ("3", "9"), ["3 9"], {}, set(), object(), Range(3, 9), str]:
            error = raised(Range.parsed, value)
            self.assertIs(type(error), ParseError)
            self.assertEqual(error.line, 0)

    def test_texts_with_one_sign_changed(self):
        number = "(-[1-9][0-9]{0,59}|[1-9][0-9]{0,59}|0)"
        form = re.compile(number + " (" + number + "|-)")
        for text in ["3 9", "-3 12", "-30 -21", "10 -", "0 0", "-1 -", "empty", "1" * 60 + " " + "2" * 60]:
            changed = set()
            for at in range(len(text) + 1):
                for sign in ["", *"0159- +_.,ex\n\t"]:
                    changed.add(text[:at] + sign + text[at:])
                    changed.add(text[:at] + sign + text[at + 1:])
            for other in changed:
                found = form.fullmatch(other)
                if other == "empty":
                    self.assertEqual(Range.parsed(other), Range.empty())
                elif found and (found[2] == "-" or int(found[1]) <= int(found[2])):
                    last = None if found[2] == "-" else int(found[2])
                    self.assertEqual(Range.parsed(other), Range(int(found[1]), last), other)
                else:
                    self.assertIs(type(raised(Range.parsed, other)), ParseError, other)


class Comparing(unittest.TestCase):
    def test_equal_if_both_have_the_same_moments(self):
        for one, two, left, right in pairs():
            same = place(*one) == place(*two)
            self.assertIs(left == right, same)
            self.assertIs(left != right, not same)

    def test_all_empty_ranges_are_equal(self):
        for other in [Range(5, 4), Range(TOP, -TOP), Range(-3, -8), Range(0, 1) & Range(2, None), Range.empty() + 4]:
            self.assertTrue(other == Range.empty())
            self.assertTrue(other <= Range.empty() and other >= Range.empty())
            self.assertFalse(other < Range.empty() or other > Range.empty())

    def test_no_other_value_is_equal(self):
        for made in [Range(0, 1), Range(0, None), Range.empty()]:
            for value in [*NO_INTEGERS, 0, 1, (0, 1), [0, 1], "0 1", "empty", range(2)]:
                self.assertIs(made == value, False)
                self.assertIs(value == made, False)
                self.assertIs(made != value, True)

    def test_order(self):
        for one, two, left, right in pairs():
            self.assertIs(left < right, place(*one) < place(*two))
            self.assertIs(left <= right, place(*one) <= place(*two))
            self.assertIs(left > right, place(*one) > place(*two))
            self.assertIs(left >= right, place(*one) >= place(*two))

    def test_order_of_big_ranges(self):
        for one, two in itertools.product(BIG_ENDS + [(0, -1), (0, None)], repeat=2):
            self.assertIs(Range(*one) < Range(*two), place(*one) < place(*two))
            self.assertIs(Range(*one) >= Range(*two), place(*one) >= place(*two))
            self.assertIs(Range(*one) == Range(*two), place(*one) == place(*two))

    def test_sorted(self):
        ordered = [Range.empty(), Range(-TOP, 0), Range(-2, 5), Range(-2, None), Range(0, TOP), Range(0, None)]
        self.assertEqual([str(made) for made in sorted(reversed(ordered))], [str(made) for made in ordered])


class Moments(unittest.TestCase):
    def test_moments_within(self):
        for ends in ENDS:
            self.assertEqual(seen(Range(*ends)), moments(*ends))

    def test_big_moments(self):
        self.assertTrue(TOP in Range(0, None) and TOP in Range(0, TOP) and -TOP in Range(-TOP, -TOP))
        self.assertFalse(TOP in Range(0, TOP - 1) or -TOP in Range(-TOP + 1, None))
        self.assertFalse(-TOP in Range.empty() or TOP in Range.empty() or 0 in Range.empty())

    def test_an_endless_range_has_no_last_moment(self):
        for moment in [10 ** 60, 10 ** 60 + 1, 10 ** 70]:
            self.assertTrue(moment in Range(0, None))
            self.assertFalse(moment in Range(0, TOP) or -moment in Range(-TOP, None))

    def test_other_values_are_not_within(self):
        for made in [Range(-5, 5), Range(0, 1), Range(-TOP, TOP)]:
            for value in [*NO_INTEGERS, 0.0, "0", (0, 1), [0], range(1)]:
                self.assertIs(value in made, False)

    def test_ranges_within(self):
        for one, two, left, right in pairs():
            within = moments(*two) <= moments(*one)
            self.assertIs(right in left, within)
            self.assertIs(left.covers(right), within)

    def test_big_ranges_within(self):
        whole = Range(-TOP, None)
        for ends in BIG_ENDS:
            self.assertTrue(Range(*ends) in whole and whole.covers(other=Range(*ends)))
        self.assertFalse(whole in Range(-TOP, TOP))
        self.assertFalse(Range(-TOP, TOP).covers(Range(TOP, None)))
        self.assertTrue(Range.empty() in Range.empty())
        self.assertFalse(Range(-TOP, -TOP) in Range.empty())


class Combining(unittest.TestCase):
    def test_common_moments(self):
        for one, two, left, right in pairs():
            both = left & right
            self.assertIsInstance(both, Range)
            self.assertEqual(seen(both), moments(*one) & moments(*two))
            self.assertIs(both.is_endless, left.is_endless and right.is_endless)

    def test_common_moments_of_big_ranges(self):
        self.assertEqual(Range(-TOP, 5) & Range(-5, TOP), Range(-5, 5))
        self.assertEqual(Range(-TOP, None) & Range(TOP, None), Range(TOP, None))
        self.assertEqual(Range(-TOP, None) & Range(-TOP, TOP), Range(-TOP, TOP))
        self.assertEqual(Range(-TOP, -TOP) & Range.empty(), Range.empty())
        self.assertEqual(Range.empty() & Range(-TOP, None), Range.empty())

    def test_is_before(self):
        for one, two, left, right in pairs():
            before = all(m < n for m in moments(*one) for n in moments(*two))
            self.assertIs(left.is_before(right), before)
        self.assertTrue(Range(-TOP, TOP - 1).is_before(other=Range(TOP, None)))
        self.assertFalse(Range(-TOP, TOP).is_before(Range(TOP, None)))
        self.assertTrue(Range(0, None).is_before(Range.empty()))
        self.assertFalse(Range(0, None).is_before(Range(TOP, TOP)))

    def test_joined(self):
        for one, two, left, right in pairs():
            union = moments(*one) | moments(*two)
            both = left.joined(right)
            if union and len(union) != max(union) - min(union) + 1:
                self.assertIs(both, None)
            else:
                self.assertIsInstance(both, Range)
                self.assertEqual(seen(both), union)
                self.assertIs(both.is_endless, left.is_endless or right.is_endless)

    def test_joined_big_ranges(self):
        self.assertEqual(Range(-TOP, 0).joined(other=Range(1, TOP)), Range(-TOP, TOP))
        self.assertEqual(Range(TOP, None).joined(Range(-TOP, TOP - 1)), Range(-TOP, None))
        self.assertIs(Range(TOP, None).joined(Range(-TOP, TOP - 2)), None)
        self.assertEqual(Range.empty().joined(Range(-TOP, None)), Range(-TOP, None))
        self.assertEqual(Range(TOP, TOP).joined(Range.empty()), Range(TOP, TOP))
        self.assertEqual(Range.empty().joined(Range.empty()), Range.empty())

    def test_nothing_changes_its_operands(self):
        for one, two, left, right in pairs():
            left & right, left.covers(right), left.is_before(right), left.joined(right)
            left < right, right in left, left + 3, 3 + left, left - 3
            self.assertEqual([left, right], [Range(*one), Range(*two)])


class Moving(unittest.TestCase):
    def test_moved(self):
        for first, last in ENDS:
            for shift in [0, 1, -1, 5, -5, 10 ** 40, -10 ** 40, TOP - 9, 9 - TOP]:
                later = Range(first + shift, None if last is None else last + shift)
                sooner = Range(first - shift, None if last is None else last - shift)
                self.assertEqual(Range(first, last) + shift, later)
                self.assertEqual(shift + Range(first, last), later)
                self.assertEqual(Range(first, last) - shift, sooner)

    def test_to_the_last_integers(self):
        self.assertEqual(Range(0, None) + TOP, Range(TOP, None))
        self.assertEqual(-TOP + Range(0, 0), Range(-TOP, -TOP))
        self.assertEqual(Range(0, 5) - TOP, Range(-TOP, 5 - TOP))
        self.assertEqual(Range(-TOP, 0) - -TOP, Range(0, TOP))

    def test_an_empty_range_stays_empty(self):
        for shift in [0, 1, -1, TOP, -TOP]:
            for moved in [Range.empty() + shift, shift + Range.empty(), Range.empty() - shift]:
                self.assertEqual(moved, Range.empty())

    def test_wrong_shifts(self):
        for made in [Range(3, 9), Range(3, None), Range.empty()]:
            for value in [*NO_INTEGERS, Range(0, 1)]:
                for error in [raised(lambda: made + value), raised(lambda: made - value), raised(lambda: value + made)]:
                    self.assertIs(type(error), InvalidMoment)
                for error in [raised(lambda: made + value), raised(lambda: made - value)]:
                    self.assertIs(error.value, value)
                if not isinstance(value, Range):
                    self.assertIs(raised(lambda: value + made).value, value)

    def test_a_failed_move_changes_nothing(self):
        made = Range(3, 9)
        raised(lambda: made + True)
        raised(lambda: made - "x")
        self.assertEqual(str(made), "3 9")

    def test_moved_in_place_is_a_new_range(self):
        made = old = Range(3, 9)
        made += 2
        self.assertEqual([str(made), str(old)], ["5 11", "3 9"])


class Examples(unittest.TestCase):
    def test_common_and_moved(self):
        self.assertEqual(str(Range(3, 9) & (Range(0, 4) + 2)), "3 6")

    def test_joined(self):
        whole = Range(3, 5).joined(Range(6, None))
        told = [5 in whole, Range(4, 6) in whole, whole.is_endless, Range(5, 4) == Range.empty()]
        self.assertEqual(told, [True, True, True, True])
