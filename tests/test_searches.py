"""The least wall, the greatest surge and the last hour for closing."""

import random
import unittest

from surgekept.errors import InvalidState, InvalidWorks
from surgekept.plan import Plan
from surgekept.searches import greatest_surge, last_closing, wall_needed, walled
from surgekept.works import Course, Works
from tests.reference import (
    all_states, is_kept, large_cases, latest_closing, least_wall, most_surge, raised, small_cases)

SEARCHES = (wall_needed, greatest_surge, last_closing)
SMALL = small_cases(91, 200)


def some_states(chance, numbers, many):
    states = all_states(numbers)
    return chance.sample(states, min(many, len(states)))


def problem(numbers, hours):
    return Works(*numbers), Course(hours)


def flooded(seed, many):
    """Small works with rivers for which a wall of 200 may be too low, and a course of few hours."""
    chance = random.Random(seed)
    cases = []
    for _ in range(many):
        wall = chance.randint(1, 9)
        numbers = (wall, chance.randint(1, 60), chance.randint(0, 40), chance.randint(1, 3), chance.randint(0, wall))
        river = [chance.randint(10, 130) for _ in range(chance.randint(1, 3))]
        cases.append((numbers, [(0, chance.randint(0, 9), low, low + 3, False) for low in river]))
    return cases


class WalledTest(unittest.TestCase):

    def test_the_other_numbers_stay(self):
        works = Works(9, 3, 2, 4, 5)
        for wall in (5, 6, 9, 10, 200):
            other = walled(works, wall)
            self.assertIsInstance(other, Works)
            self.assertEqual((other.wall, other.flow, other.pump, other.rest, other.deep), (wall, 3, 2, 4, 5))
        self.assertEqual((works.wall, works.flow, works.pump, works.rest, works.deep), (9, 3, 2, 4, 5))

    def test_walls_that_the_works_cannot_have(self):
        for wall in (0, -1, 1, 4, 201, 1000, True, None, "9"):
            with self.subTest(wall=wall), self.assertRaises(InvalidWorks):
                walled(Works(9, 3, 2, 4, 5), wall)
        with self.assertRaises(InvalidWorks):
            walled(Works(9, 3, 2, 4, 0), 0)


class WallTest(unittest.TestCase):

    def test_small_ones(self):
        chance, seen = random.Random(92), set()
        for numbers, hours in SMALL + flooded(93, 60):
            for state in some_states(chance, numbers, 4):
                wall = least_wall(numbers, hours, state)
                self.assertEqual(wall_needed(*problem(numbers, hours), state), wall, (numbers, hours, state))
                seen.add("none" if wall is None else "least" if wall == max(1, numbers[4], state[0]) else "more")
                seen.add(wall is not None and wall > numbers[0])
        self.assertEqual(seen, {"none", "least", "more", True, False})

    def test_told_by_hand(self):
        # The gate stays open, the sea is at 7 to 9 and the river brings one.
        works, course = problem((20, 9, 0, 1, 0), [(7, 9, 1, 1, True)])
        self.assertEqual(wall_needed(works, course, (0, False, 1)), 10)
        self.assertEqual(wall_needed(works, course, (15, False, 1)), 15)
        low, course = problem((1, 9, 0, 1, 0), [(7, 9, 1, 1, True)])
        self.assertEqual(wall_needed(low, course, (0, False, 1)), 10)
        self.assertEqual(wall_needed(*problem((1, 1, 400, 1, 0), [(0, 0, 0, 0, False)]), (0, True, 1)), 1)
        self.assertEqual(wall_needed(*problem((9, 1, 400, 1, 6), [(0, 0, 0, 0, False)]), (0, True, 1)), 6)

    def test_the_highest_wall_is_enough_or_not(self):
        for river, wall in ((199, 199), (200, 200), (201, None), (400, None)):
            course = Course([(0, 0, river, river, False)])
            self.assertEqual(wall_needed(Works(5, 1, 0, 1, 0), course, (0, False, 1)), wall)
        # No wall helps a ship that has too little water.
        self.assertIsNone(wall_needed(*problem((5, 1, 0, 1, 5), [(0, 0, 0, 0, True)]), (5, False, 1)))

    def test_large_ones(self):
        chance, found = random.Random(94), 0
        for numbers, hours in large_cases(95, 5):
            works, course = problem(numbers, hours)
            for state in some_states(chance, numbers, 3):
                wall = wall_needed(works, course, state)
                least = max(1, numbers[4], state[0])
                if wall is None:
                    self.assertFalse(Plan(walled(works, 200), course).is_kept(0, state))
                    continue
                found += 1
                self.assertGreaterEqual(wall, least)
                self.assertTrue(Plan(walled(works, wall), course).is_kept(0, state))
                for lower in {least, (least + wall) // 2, wall - 1}:
                    if least <= lower < wall:
                        self.assertFalse(Plan(walled(works, lower), course).is_kept(0, state))
        self.assertGreater(found, 5)


class SurgeTest(unittest.TestCase):

    def test_small_ones(self):
        chance, seen = random.Random(96), set()
        for numbers, hours in SMALL:
            for state in some_states(chance, numbers, 5):
                surge = greatest_surge(*problem(numbers, hours), state)
                most = 400 - max(hour[1] for hour in hours)
                seen.add("none" if surge is None else "most" if surge == most else "more" if surge else "zero")
                if surge is None:
                    self.assertFalse(is_kept(numbers, hours, state))
                    continue
                self.assertTrue(is_kept(numbers, raised(hours, surge), state))
                self.assertLessEqual(surge, most)
                if surge < most:
                    self.assertFalse(is_kept(numbers, raised(hours, surge + 1), state))
                self.assertEqual(surge, most_surge(numbers, hours, state))
        self.assertEqual(seen, {"none", "most", "more", "zero"})

    def test_told_by_hand(self):
        # The gate must be open for the ship, and the basin follows the sea at once.
        works = Works(20, 400, 0, 1, 0)
        state = (0, False, 1)
        self.assertEqual(greatest_surge(works, Course([(3, 7, 0, 2, True)]), state), 11)
        self.assertEqual(greatest_surge(works, Course([(3, 7, 0, 2, True), (0, 12, 0, 0, True)]), state), 8)
        self.assertEqual(greatest_surge(works, Course([(3, 18, 0, 2, True)]), state), 0)
        self.assertIsNone(greatest_surge(works, Course([(3, 19, 0, 2, True)]), state))

    def test_no_sea_above_the_greatest(self):
        works = Works(20, 1, 400, 1, 0)
        for high, surge in ((400, 0), (399, 1), (390, 10), (0, 400)):
            course = Course([(0, high, 0, 0, False), (0, 0, 0, 0, False)])
            self.assertEqual(greatest_surge(works, course, (0, True, 1)), surge)

    def test_large_ones(self):
        chance, found = random.Random(97), 0
        for numbers, hours in large_cases(98, 5):
            works, course = problem(numbers, hours)
            for state in some_states(chance, numbers, 3):
                surge = greatest_surge(works, course, state)
                self.assertEqual(surge is None, not Plan(works, course).is_kept(0, state))
                if surge is not None:
                    found += 1
                    self.assertTrue(Plan(works, course.raised(surge)).is_kept(0, state))
                    if surge < 400 - max(hour[1] for hour in hours):
                        self.assertFalse(Plan(works, course.raised(surge + 1)).is_kept(0, state))
        self.assertGreater(found, 5)


class ClosingTest(unittest.TestCase):

    def test_small_ones(self):
        seen = set()
        for numbers, hours in SMALL:
            works, course = problem(numbers, hours)
            for state in all_states(numbers):
                expected = latest_closing(numbers, hours, state)
                self.assertEqual(last_closing(works, course, state), expected, (numbers, hours, state))
                seen.add("all" if expected == len(hours) else expected)
        self.assertLessEqual({"all", None, 0, 1, 2, 3}, seen)

    def test_told_by_hand(self):
        # The sea stands at 9 throughout, and a flow of one brings the basin up to it.
        works, course = problem((6, 1, 3, 1, 0), [(9, 9, 0, 0, False)] * 5)
        for level, hour in ((0, 5), (1, 5), (2, 4), (3, 3), (4, 2), (5, 1), (6, 0)):
            self.assertEqual(last_closing(works, course, (level, False, 1)), hour)
            self.assertEqual(last_closing(works, course, (level, True, 1)), hour)

    def test_a_gate_that_rests(self):
        works, course = problem((6, 1, 3, 3, 0), [(9, 9, 0, 0, False)] * 5)
        # A shut gate that may not be moved is not open in the first hour.
        self.assertEqual(last_closing(works, course, (0, True, 2)), 0)
        self.assertEqual(last_closing(works, course, (0, True, 3)), 5)
        # A gate that has just been opened stays open for its rest, shut or not behind it.
        self.assertEqual(last_closing(works, course, (4, False, 1)), 2)
        self.assertIsNone(last_closing(works, course, (5, False, 1)))
        self.assertEqual(last_closing(works, course, (5, False, 2)), 1)
        # Opened in the first hour, it would stay open for two more.
        self.assertEqual(last_closing(works, course, (4, True, 3)), 0)
        self.assertEqual(last_closing(works, course, (3, True, 3)), 3)

    def test_large_ones(self):
        chance, found = random.Random(99), 0
        for numbers, hours in large_cases(100, 8):
            works, course = problem(numbers, hours)
            plan = Plan(works, course)
            for state in some_states(chance, numbers, 10):
                hour = last_closing(works, course, state)
                self.assertEqual(hour is None, not plan.is_kept(0, state))
                if hour is not None:
                    found += 1
                    self.check(works, hours, plan, state, hour)
        self.assertGreater(found, 10)

    def check(self, works, hours, plan, state, last):
        """Lead all levels at once with the gate open, ahead of the last hour and one hour further."""
        if state[1] and state[2] < works.rest:
            self.assertEqual(last, 0)
            return
        met, since = {state[0]}, state[2]
        for number in range(min(last + 1, len(hours))):
            since = 1 if number == 0 and state[1] else min(since + 1, works.rest)
            low, high, river_low, river_high, ship = hours[number]
            met = {
                level + max(-works.flow, min(works.flow, sea - level)) + river
                for level in met for sea in range(low, high + 1) for river in range(river_low, river_high + 1)}
            holds = all(
                level <= works.wall and (level >= works.deep or not ship)
                and plan.is_kept(number + 1, (level, False, since)) for level in met)
            self.assertEqual(holds, number < last)


class WrongTest(unittest.TestCase):

    def test_states_that_are_none(self):
        works, course = problem((9, 3, 2, 2, 0), [(0, 4, 0, 1, False)] * 2)
        for state in (
                (10, False, 1), (-1, False, 1), (200, False, 1), (201, False, 1), (5, False, 0), (5, True, 3),
                (5, True, 7), (5, 1, 1), (True, False, 1), None):
            for search in SEARCHES:
                with self.subTest(search=search.__name__, state=state), self.assertRaises(InvalidState):
                    search(works, course, state)

    def test_they_come_ahead_of_what_is_lost(self):
        works, course = problem((9, 3, 2, 2, 9), [(400, 400, 400, 400, True)])
        for search in SEARCHES:
            self.assertIsNone(search(works, course, (9, False, 2)))
            with self.assertRaises(InvalidState):
                search(works, course, (10, False, 2))


if __name__ == "__main__":
    unittest.main()
