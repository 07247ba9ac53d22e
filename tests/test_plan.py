import unittest

from surgekept.errors import InvalidMove, InvalidState
from surgekept.plan import Plan
from surgekept.works import Course, Works
from tests.reference import Table, all_states, since_behind, small_cases

CASES = small_cases(7, 260)


def plan_of(numbers, hours):
    return Plan(Works(*numbers), Course(hours))


class AgainstTheTableTest(unittest.TestCase):

    def test_the_cases_are_of_every_kind(self):
        seen = set()
        for numbers, hours in CASES:
            table = Table(numbers, hours)
            seen.update(table.action(0, state) for state in all_states(numbers))
            seen.update(f"worst {table.worst(0, state)}" for state in all_states(numbers))
        self.assertLessEqual({True, False, None, "worst None", "worst 0", "worst 2"}, seen)

    def test_worst_numbers(self):
        for numbers, hours in CASES:
            plan, table = plan_of(numbers, hours), Table(numbers, hours)
            for number in range(len(hours) + 1):
                for state in all_states(numbers):
                    worst = table.worst(number, state)
                    self.assertEqual(plan.worst(number, state), worst)
                    self.assertIs(plan.is_kept(number, state), worst is not None)

    def test_costs_and_actions(self):
        for numbers, hours in CASES:
            plan, table = plan_of(numbers, hours), Table(numbers, hours)
            for number in range(len(hours)):
                for state in all_states(numbers):
                    for shut in (False, True):
                        self.assertEqual(plan.cost(number, state, shut), table.cost(number, state, shut))
                    self.assertIs(plan.action(number, state), table.action(number, state))

    def test_levels(self):
        for numbers, hours in CASES:
            plan, table = plan_of(numbers, hours), Table(numbers, hours)
            for number in range(len(hours) + 1):
                for shut in (False, True):
                    for since in range(1, numbers[3] + 1):
                        expected = [
                            level for level in range(numbers[0] + 1)
                            if table.worst(number, (level, shut, since)) is not None]
                        self.assertEqual(plan.levels(number, shut, since), expected)

    def test_what_beats_an_action(self):
        for numbers, hours in CASES:
            plan, table = plan_of(numbers, hours), Table(numbers, hours)
            for number in range(len(hours)):
                for state in all_states(numbers):
                    for shut in (False, True):
                        if since_behind(numbers, state, shut) is None:
                            with self.assertRaises(InvalidMove):
                                plan.beaten_by(number, state, shut)
                        else:
                            expected = table.beaten_by(number, state, shut)
                            self.assertEqual(plan.beaten_by(number, state, shut), expected)
                            self.assertEqual(expected is None, plan.cost(number, state, shut) is not None)


class ByHandTest(unittest.TestCase):

    def test_the_example(self):
        plan = Plan(Works(5, 2, 1, 1, 0), Course([(0, 3, 0, 1, False), (4, 9, 0, 1, False)]))
        self.assertEqual(plan.worst(0, (4, False, 1)), 1)
        self.assertIs(plan.action(1, (4, False, 1)), True)

    def test_the_fields(self):
        works, course = Works(5, 2, 1, 1, 0), Course([(0, 3, 0, 1, False)])
        plan = Plan(works, course)
        self.assertIs(plan.works, works)
        self.assertIs(plan.course, course)

    def test_behind_the_last_hour_all_is_kept(self):
        plan = plan_of((5, 2, 1, 2, 0), [(400, 400, 400, 400, True)])
        for state in all_states((5, 2, 1, 2, 0)):
            self.assertEqual(plan.worst(1, state), 0)
            self.assertIsNone(plan.worst(0, state))
        self.assertEqual(plan.levels(1, True, 2), [0, 1, 2, 3, 4, 5])
        self.assertEqual(plan.levels(0, True, 2), [])

    def test_open_if_both_costs_are_the_same(self):
        # Either the gate is shut in the first hour or in the second one.
        plan = plan_of((9, 1, 1, 1, 0), [(9, 9, 1, 1, False), (9, 9, 1, 1, False)])
        self.assertEqual(plan.cost(0, (7, True, 1), True), 1)
        self.assertEqual(plan.cost(0, (7, True, 1), False), 1)
        self.assertIs(plan.action(0, (7, True, 1)), False)
        self.assertIs(plan.action(1, (9, False, 1)), True)

    def test_the_greatest_lost_level_then_the_least_sea_then_the_least_river(self):
        plan = plan_of((5, 2, 1, 1, 0), [(4, 9, 0, 3, False)])
        # Level 4 and the open gate: the greatest level is 9, from the seas 6 to 9.
        self.assertEqual(plan.beaten_by(0, (4, False, 1), False), (6, 3))
        # Behind the shut gate it is 6, from every sea.
        self.assertEqual(plan.beaten_by(0, (4, False, 1), True), (4, 3))
        self.assertIsNone(plan.beaten_by(0, (2, False, 1), True))
        # A ship's hour is bad behind a shut gate; the pumps bring every river to 0.
        ship = plan_of((5, 2, 9, 1, 0), [(4, 9, 2, 3, True)])
        self.assertEqual(ship.beaten_by(0, (3, True, 1), True), (4, 2))
        # A ship needs 4, which some rivers do not bring: the greatest level without it is 3.
        deep = plan_of((20, 2, 0, 1, 4), [(0, 9, 0, 3, True)])
        self.assertEqual(deep.beaten_by(0, (3, False, 1), False), (0, 2))

    def test_a_list_of_its_own(self):
        plan = plan_of((5, 2, 1, 1, 0), [(0, 3, 0, 1, False)])
        levels = plan.levels(0, False, 1)
        self.assertEqual(levels, [0, 1, 2, 3, 4, 5])
        levels.clear()
        self.assertEqual(plan.levels(0, False, 1), [0, 1, 2, 3, 4, 5])
        self.assertEqual(plan.worst(0, (4, False, 1)), 0)


class WrongTest(unittest.TestCase):

    def setUp(self):
        self.plan = plan_of((9, 3, 2, 2, 0), [(4, 6, 0, 1, False)] * 2)
        # One hour, so that True is as great as the number of hours.
        self.one = plan_of((9, 3, 2, 2, 0), [(4, 6, 0, 1, False)])

    def questions(self, plan, number, state):
        return [
            lambda: plan.cost(number, state, False),
            lambda: plan.cost(number, state, True),
            lambda: plan.action(number, state),
            lambda: plan.beaten_by(number, state, False),
            lambda: plan.beaten_by(number, state, True),
        ]

    def moments(self, plan, number, state):
        return [lambda: plan.worst(number, state), lambda: plan.is_kept(number, state)]

    def refuse(self, questions):
        for question in questions:
            with self.assertRaises(InvalidState):
                question()

    def test_bad_numbers(self):
        for plan in (self.plan, self.one):
            for number in (-1, -2, 3, 72, None, True, False, "0", 0.0, (0,)):
                for state in ((5, False, 2), (5, False, 1)):
                    with self.subTest(number=number, state=state):
                        self.refuse(self.questions(plan, number, state) + self.moments(plan, number, state))
                        self.refuse([lambda: plan.levels(number, False, 2)])

    def test_behind_the_last_hour(self):
        for state in ((5, False, 2), (5, True, 1)):
            self.refuse(self.questions(self.plan, 2, state))
            self.refuse(self.questions(self.one, 1, state))
            self.assertEqual(self.plan.worst(2, state), 0)
            self.assertIs(self.one.is_kept(1, state), True)

    def test_bad_states(self):
        for state in (
                (-1, False, 1), (10, False, 1), (5, False, 0), (5, True, 3), (5, 0, 1), (5, None, 1),
                (True, False, 1), (5, False, True), ("5", False, 1), (5, False), (5, False, 1, 1),
                [5, False, 1], None):
            with self.subTest(state=state):
                for number in (0, 1):
                    self.refuse(self.questions(self.plan, number, state))
                for number in (0, 1, 2):
                    self.refuse(self.moments(self.plan, number, state))

    def test_bad_gates(self):
        for shut, since in ((False, 0), (True, 3), (False, -1), (True, True), (False, None), (0, 1), (1, 1), (None, 1)):
            for number in (0, 1, 2):
                with self.subTest(shut=shut, since=since), self.assertRaises(InvalidState):
                    self.plan.levels(number, shut, since)

    def test_an_action_that_the_rest_forbids(self):
        for number in (0, 1):
            for shut in (False, True):
                state = (5, shut, 1)
                self.assertIsNone(self.plan.cost(number, state, not shut))
                with self.assertRaises(InvalidMove):
                    self.plan.beaten_by(number, state, not shut)


if __name__ == "__main__":
    unittest.main()
