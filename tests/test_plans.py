"""Promise [6] and the interface of gaplesskeys.plans."""

import copy
import unittest

from gaplesskeys.contents import Contents
from gaplesskeys.errors import InvalidMoment, InvalidPlan, LimitExceeded, UnknownEdition
from gaplesskeys.plans import Plan
from tests.helper import LAST, NO_MOMENTS, NO_WORDS, contents, plain_plan, raised, told_error

ONE = contents("a")
TWO = contents("ab", "b")
OTHER = contents("a", role="web")
BOTH = Contents({"app": (["a"], "a"), "web": (["a"], "a")}, [])
NO_EDITIONS = [
    None, True, 0, "", "ab", ONE, [], [3, ONE], (), (3,), (3, ONE, ONE), (ONE, 3), (3, None), (3, "app a a | - 0 -"),
    (3, (3, ONE)), {3: ONE}, {3, ONE.needed}, ((3, ONE),), object(), *[(moment, ONE) for moment in NO_MOMENTS],
]


def told(plan):
    """All that a plan tells of itself."""
    return [(plan[number], plan.moment_of(number), plan.contents_of(number)) for number in range(len(plan))]


class Making(unittest.TestCase):
    def test_editions_are_numbered_from_0(self):
        plan = Plan([(3, ONE), (5, TWO), (6, ONE)])
        self.assertEqual(len(plan), 3)
        self.assertEqual([plan.moment_of(n) for n in range(3)], [3, 5, 6])
        self.assertEqual([plan.contents_of(n) for n in range(3)], [ONE, TWO, ONE])
        self.assertEqual([plan[n] for n in range(3)], [(3, ONE), (5, TWO), (6, ONE)])
        self.assertTrue(all(type(plan[n]) is tuple for n in range(3)))

    def test_by_name(self):
        self.assertEqual(Plan(editions=[(3, ONE)])[0], (3, ONE))
        self.assertIsInstance(raised(Plan), TypeError)

    def test_one_to_seven_editions(self):
        for many in range(1, 8):
            self.assertEqual(len(Plan([(n, ONE) for n in range(many)])), many)
        for many in [0, 8, 9, 40]:
            self.assertEqual(told_error(Plan, [(n, ONE) for n in range(many)]), (InvalidPlan, None))

    def test_values_that_are_no_list(self):
        plan = Plan([(3, ONE)])
        for value in [None, True, 1, "ab", (), ((3, ONE),), {3: ONE}, {0: (3, ONE)}, {(3, 4)}, plan, ONE, iter([(3, ONE)])]:
            self.assertEqual(told_error(Plan, value), (InvalidPlan, None))

    def test_too_many_go_ahead_of_wrong_ones(self):
        self.assertEqual(told_error(Plan, [None] * 8), (InvalidPlan, None))

    def test_items_that_are_no_editions(self):
        for value in NO_EDITIONS:
            self.assertEqual(told_error(Plan, [value]), (InvalidPlan, 0))
            self.assertEqual(told_error(Plan, [(1, ONE), value, (4, ONE)]), (InvalidPlan, 1))
            self.assertEqual(told_error(Plan, [(1, ONE), (2, ONE), value]), (InvalidPlan, 2))
            self.assertEqual(told_error(Plan, [value, value]), (InvalidPlan, 0))

    def test_moments_ascend_strictly(self):
        for moments, wrong in [
            ([3, 3], 1), ([3, 2], 1), ([0, 4, 4], 2), ([0, 4, 3], 2), ([5, 4, 3], 1), ([0, 5, 2, 3], 2),
            ([LAST, LAST], 1), ([1, 2, 3, 4, 5, 6, 6], 6), ([0, 2, 1, 3], 2),
        ]:
            self.assertEqual(told_error(Plan, [(moment, ONE) for moment in moments]), (InvalidPlan, wrong))
        for moments in [[0, 1], [0, LAST], [LAST - 1, LAST], [10 ** 30, 10 ** 30 + 1], [0, 1, 2, 3, 4, 5, 6]]:
            self.assertEqual(plain_plan(*moments).moments(), moments)

    def test_all_editions_have_the_same_roles(self):
        self.assertEqual(told_error(Plan, [(1, ONE), (2, OTHER)]), (InvalidPlan, 1))
        self.assertEqual(told_error(Plan, [(1, ONE), (2, TWO), (3, BOTH)]), (InvalidPlan, 2))
        self.assertEqual(told_error(Plan, [(1, BOTH), (2, ONE)]), (InvalidPlan, 1))
        self.assertEqual(told_error(Plan, [(1, ONE), (2, OTHER), (2, OTHER)]), (InvalidPlan, 1))
        turned = Contents({"web": (["b"], "b"), "app": (["a"], "a")}, [])
        self.assertEqual(len(Plan([(1, BOTH), (2, turned)])), 2)

    def test_the_first_wrong_item_is_told(self):
        self.assertEqual(told_error(Plan, [(3, ONE), (3, OTHER), None]), (InvalidPlan, 1))
        self.assertEqual(told_error(Plan, [(3, ONE), (4, OTHER), (4, ONE)]), (InvalidPlan, 1))
        self.assertEqual(told_error(Plan, [(3, ONE), (4, ONE), (True, ONE), (2, ONE)]), (InvalidPlan, 2))

    def test_the_list_is_copied_and_not_changed(self):
        editions = [(3, ONE), (5, TWO)]
        before = copy.copy(editions)
        plan = Plan(editions)
        self.assertEqual(editions, before)
        editions.append((7, ONE))
        editions[0] = (1, TWO)
        self.assertEqual(told(plan), told(Plan(before)))
        plan.add(9, ONE)
        plan[0] = (2, ONE)
        self.assertEqual(len(editions), 3)


class Asking(unittest.TestCase):
    def test_numbers_that_are_no_edition(self):
        plan = plain_plan(3, 5)
        numbers = [-1, -2, 2, 3, 7, LAST, *[value for value in NO_MOMENTS if value != 10 ** 41], slice(0, 1), (0, 1)]
        for number in numbers:
            for call in [plan.moment_of, plan.contents_of, plan.cut, lambda at: plan[at]]:
                error = raised(call, number)
                self.assertIs(type(error), UnknownEdition)
                self.assertIs(error.number, number)

    def test_by_name(self):
        plan = Plan([(3, ONE), (5, TWO)])
        self.assertEqual([plan.moment_of(number=1), plan.contents_of(number=1)], [5, TWO])
        self.assertEqual([plan.current(moment=4), plan.cut(number=0).moments()], [0, [3]])

    def test_moments_are_a_new_list(self):
        plan = plain_plan(3, 5)
        moments = plan.moments()
        self.assertEqual(moments, [3, 5])
        moments.append(6)
        moments[0] = 0
        self.assertEqual(plan.moments(), [3, 5])

    def test_current_until_the_moment_before_the_next(self):
        plan = plain_plan(3, 5, 6, 9)
        found = [plan.current(moment) for moment in range(12)]
        self.assertEqual(found, [None, None, None, 0, 0, 1, 2, 2, 2, 3, 3, 3])
        self.assertEqual([plan.current(LAST), plain_plan(0).current(0), plain_plan(LAST).current(LAST)], [3, 0, 0])
        self.assertEqual(plain_plan(LAST).current(LAST - 1), None)
        self.assertEqual([plain_plan(10 ** 30, 10 ** 39).current(10 ** 39 - at) for at in [0, 1]], [1, 0])

    def test_current_of_values_that_are_no_moments(self):
        plan = plain_plan(3, 5)
        for value in NO_MOMENTS:
            error = raised(plan.current, value)
            self.assertIs(type(error), InvalidMoment)
            self.assertIs(error.value, value)

    def test_equal_plans(self):
        plan = Plan([(3, ONE), (5, TWO)])
        self.assertIs(plan == Plan([(3, contents("a")), (5, contents("ba", "b"))]), True)
        for other in [
            Plan([(3, ONE)]), Plan([(3, ONE), (5, TWO), (6, TWO)]), Plan([(2, ONE), (5, TWO)]), Plan([(3, ONE), (6, TWO)]),
            Plan([(3, ONE), (5, ONE)]), Plan([(3, TWO), (5, TWO)]), Plan([(3, OTHER), (5, OTHER)]),
        ]:
            self.assertIs(plan == other, False)
            self.assertIs(plan != other, True)

    def test_no_other_value_is_equal(self):
        plan = Plan([(3, ONE)])
        for value in [*NO_MOMENTS, *NO_WORDS, [(3, ONE)], (3, ONE), ONE]:
            self.assertIs(plan == value, False)
            self.assertIs(plan != value, True)


class Changing(unittest.TestCase):
    def test_add(self):
        plan = Plan([(0, ONE)])
        for number in range(1, 7):
            self.assertEqual(plan.add(number * 2, TWO), number)
        self.assertEqual(plan.moments(), [0, 2, 4, 6, 8, 10, 12])
        self.assertEqual(plan[6], (12, TWO))
        self.assertEqual(Plan([(0, ONE)]).add(contents=TWO, moment=LAST), 1)

    def test_add_beyond_seven(self):
        plan = plain_plan(*range(7))
        for moment, value in [(9, ONE), (3, ONE), (True, None), (9, OTHER)]:
            self.assertEqual(told_error(plan.add, moment, value), (LimitExceeded, 7))
        self.assertEqual(plan, plain_plan(*range(7)))

    def test_add_what_does_not_fit(self):
        plan = plain_plan(3, 5)
        for moment, value in [
            (5, ONE), (4, ONE), (0, ONE), (6, OTHER), (6, BOTH), (6, None), (6, (6, ONE)), (6, "a"),
            *[(moment, ONE) for moment in NO_MOMENTS],
        ]:
            self.assertEqual(told_error(plan.add, moment, value), (InvalidPlan, 2))
        self.assertEqual(plan, plain_plan(3, 5))

    def test_drop(self):
        plan = plain_plan(3, 5, 7)
        self.assertIsNone(plan.drop())
        self.assertEqual(plan, plain_plan(3, 5))
        plan.drop()
        self.assertEqual(told_error(plan.drop), (UnknownEdition, 0))
        self.assertEqual(plan, plain_plan(3))
        self.assertEqual([plan.add(4, ONE), plan.moments()], [1, [3, 4]])

    def test_put_in_place(self):
        plan = plain_plan(3, 5, 9)
        plan[1] = (8, TWO)
        self.assertEqual([plan[1], plan.moments()], [(8, TWO), [3, 8, 9]])
        plan[0] = (0, TWO)
        plan[2] = (LAST, TWO)
        self.assertEqual(plan, Plan([(0, TWO), (8, TWO), (LAST, TWO)]))
        plan[1] = (1, TWO)
        plan[1] = (LAST - 1, TWO)
        self.assertEqual(plan.moment_of(1), LAST - 1)

    def test_put_in_the_place_of_the_only_one(self):
        plan = plain_plan(3)
        plan[0] = (1, BOTH)
        self.assertEqual(plan, Plan([(1, BOTH)]))

    def test_put_what_does_not_fit(self):
        plan = plain_plan(3, 5, 9)

        def put(number, value):
            plan[number] = value

        for number, value in [
            (0, (5, ONE)), (0, (6, ONE)), (1, (3, ONE)), (1, (9, ONE)), (1, (2, ONE)), (1, (10, ONE)), (2, (5, ONE)),
            (0, (3, OTHER)), (1, (5, OTHER)), (2, (9, BOTH)), (0, (20, OTHER)),
        ]:
            self.assertEqual(told_error(put, number, value), (InvalidPlan, number))
        for value in NO_EDITIONS:
            for number in range(3):
                self.assertEqual(told_error(put, number, value), (InvalidPlan, number))
        for number in [-1, 3, True, None, "0", 0.0, [], slice(0, 1)]:
            for value in [(4, ONE), None]:
                error = raised(put, number, value)
                self.assertIs(type(error), UnknownEdition)
                self.assertIs(error.number, number)
        self.assertEqual(plan, plain_plan(3, 5, 9))

    def test_twin(self):
        plan = Plan([(3, ONE), (5, TWO)])
        twin = plan.twin()
        self.assertEqual(twin, plan)
        self.assertIsNot(twin, plan)
        twin.add(7, ONE)
        twin[0] = (1, TWO)
        self.assertEqual(plan, Plan([(3, ONE), (5, TWO)]))
        other = plan.twin()
        plan.drop()
        self.assertEqual(other, Plan([(3, ONE), (5, TWO)]))

    def test_cut(self):
        plan = Plan([(3, ONE), (5, TWO), (9, ONE)])
        for number in range(3):
            self.assertEqual(plan.cut(number).moments(), [3, 5, 9][:number + 1])
        self.assertEqual(plan.cut(2), plan)
        self.assertEqual(plan.cut(1), Plan([(3, ONE), (5, TWO)]))
        whole = plan.cut(2)
        whole.drop()
        plan.cut(0).add(4, TWO)
        self.assertEqual(len(plan), 3)


class Visiting(unittest.TestCase):
    def test_the_plan_itself_is_visited(self):
        plan = plain_plan(3, 5)
        seen = []
        plan.changed_by(seen.append)
        self.assertEqual(len(seen), 1)
        self.assertIs(seen[0], plan)

    def test_the_very_object_is_returned(self):
        plan = plain_plan(3, 5)
        for value in [object(), None, [], plan, ONE, ValueError("x"), False]:
            self.assertIs(plan.changed_by(lambda visited: value), value)
        self.assertIs(plan.changed_by(visitor=lambda visited: visited), plan)

    def test_changes_stay(self):
        plan = plain_plan(3, 5)

        def visit(visited):
            visited.drop()
            visited[0] = (1, TWO)
            return visited.add(2, ONE)

        self.assertEqual(plan.changed_by(visit), 1)
        self.assertEqual(plan, Plan([(1, TWO), (2, ONE)]))

    def test_what_raises_changes_nothing(self):
        for error in [ValueError("x"), InvalidPlan(3), KeyError(1), StopIteration(), KeyboardInterrupt(), SystemExit(), MemoryError()]:
            plan = plain_plan(3, 5)

            def visit(visited):
                visited.drop()
                visited[0] = (1, TWO)
                visited.add(2, ONE)
                visited.add(4, ONE)
                raise error

            with self.assertRaises(type(error)) as caught:
                plan.changed_by(visit)
            self.assertIs(caught.exception, error)
            self.assertEqual(plan, plain_plan(3, 5))
            self.assertEqual([plan.add(7, ONE), plan.moments()], [2, [3, 5, 7]])

    def test_an_error_of_the_plan_goes_on(self):
        plan = plain_plan(3, 5)

        def visit(visited):
            visited.add(8, ONE)
            visited.add(8, ONE)

        self.assertEqual(told_error(plan.changed_by, visit), (InvalidPlan, 3))
        self.assertEqual(plan, plain_plan(3, 5))

    def test_visits_within_visits(self):
        plan = plain_plan(3)

        def inner(visited):
            visited.add(9, ONE)
            raise KeyError("inner")

        def outer(visited):
            visited.add(5, ONE)
            raised(visited.changed_by, inner)
            return visited.moments()

        self.assertEqual(plan.changed_by(outer), [3, 5])
        self.assertEqual(plan, plain_plan(3, 5))

        def failing(visited):
            visited.changed_by(lambda again: again.add(7, ONE))
            visited.changed_by(inner)

        self.assertEqual(type(raised(plan.changed_by, failing)), KeyError)
        self.assertEqual(plan, plain_plan(3, 5))

    def test_what_cannot_be_called(self):
        plan = plain_plan(3)
        self.assertIsInstance(raised(plan.changed_by, None), TypeError)
        self.assertEqual(plan, plain_plan(3))


class Examples(unittest.TestCase):
    def test_added_and_cut(self):
        one = Contents({"app": (["a"], "a")}, ["v"])
        plan = Plan([(0, one), (4, one)])
        self.assertEqual([plan.add(9, one), plan.moments(), plan.current(8), len(plan.cut(1))], [2, [0, 4, 9], 1, 2])

    def test_two_at_one_moment(self):
        one = Contents({"app": (["a"], "a")}, ["v"])
        self.assertEqual(told_error(Plan, [(3, one), (3, one)]), (InvalidPlan, 1))
