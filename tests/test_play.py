"""Basins that are led through their courses, by the plan or against every keeper."""

import random
import unittest

from surgekept.plan import Plan
from surgekept.works import Course, Works
from tests.reference import (
    all_states, all_weather, is_good_hour, large_cases, level_behind, levels_behind, since_behind, small_cases)

LARGE = [(numbers, hours, Plan(Works(*numbers), Course(hours))) for numbers, hours in large_cases(5, 24)]


class LedTest(unittest.TestCase):

    def lead_all_ways(self, numbers, hours, plan, start):
        """Lead a basin through all that may come; return the shut hours of the worst way."""
        met = {start: 0}
        for number, hour in enumerate(hours):
            behind = {}
            for state, shut_hours in met.items():
                shut = plan.action(number, state)
                self.assertIsNotNone(shut)
                since = since_behind(numbers, state, shut)
                self.assertIsNotNone(since)
                for level in levels_behind(numbers, hour, state[0], shut):
                    self.assertTrue(is_good_hour(numbers, hour, shut, level))
                    after = (level, shut, since)
                    behind[after] = max(behind.get(after, 0), shut_hours + shut)
            met = behind
        return max(met.values())

    def test_small_ones_from_every_state(self):
        kept = 0
        for numbers, hours in small_cases(51, 80):
            plan = Plan(Works(*numbers), Course(hours))
            for state in all_states(numbers):
                if plan.is_kept(0, state):
                    kept += 1
                    self.assertEqual(self.lead_all_ways(numbers, hours, plan, state), plan.worst(0, state))
        self.assertGreater(kept, 100)

    def test_large_ones(self):
        kept = 0
        for numbers, hours, plan in LARGE:
            states = [state for state in all_states(numbers) if plan.is_kept(0, state)]
            for state in states[::max(1, len(states) // 4)]:
                kept += 1
                self.assertEqual(self.lead_all_ways(numbers, hours, plan, state), plan.worst(0, state))
        self.assertGreater(kept, 20)

    def test_large_ones_by_chance(self):
        chance = random.Random(9)
        for numbers, hours, plan in LARGE:
            for state in all_states(numbers)[::97]:
                self.lead_by_chance(chance, numbers, hours, plan, state)

    def lead_by_chance(self, chance, numbers, hours, plan, state):
        worst, shut_hours = plan.worst(0, state), 0
        for number, hour in enumerate(hours):
            shut = plan.action(number, state)
            self.assertEqual(shut is None, worst is None)
            if shut is None:
                return
            sea = chance.choice((hour[0], hour[1], chance.randint(hour[0], hour[1])))
            river = chance.choice((hour[2], hour[3], chance.randint(hour[2], hour[3])))
            level = level_behind(numbers, state[0], shut, sea, river)
            self.assertTrue(is_good_hour(numbers, hour, shut, level))
            state = (level, shut, since_behind(numbers, state, shut))
            shut_hours += shut
        self.assertLessEqual(shut_hours, worst)


class BeatenTest(unittest.TestCase):

    def beat_every_keeper(self, numbers, hours, plan, start):
        """Lead a lost state against all that a keeper may do: no way has good hours alone."""
        met = {start}
        for number, hour in enumerate(hours):
            behind = set()
            for state in met:
                for shut in (False, True):
                    since = since_behind(numbers, state, shut)
                    if since is None:
                        continue
                    sea, river = plan.beaten_by(number, state, shut)
                    self.assertTrue(hour[0] <= sea <= hour[1] and hour[2] <= river <= hour[3])
                    level = level_behind(numbers, state[0], shut, sea, river)
                    if is_good_hour(numbers, hour, shut, level):
                        behind.add((level, shut, since))
            met = behind
        self.assertEqual(met, set())

    def test_small_ones_from_every_state(self):
        lost = 0
        for numbers, hours in small_cases(61, 80):
            plan = Plan(Works(*numbers), Course(hours))
            for state in all_states(numbers):
                if not plan.is_kept(0, state):
                    lost += 1
                    self.beat_every_keeper(numbers, hours, plan, state)
        self.assertGreater(lost, 100)

    def test_large_ones(self):
        lost = 0
        for numbers, hours, plan in LARGE:
            states = [state for state in all_states(numbers) if not plan.is_kept(0, state)]
            for state in states[::max(1, len(states) // 12)]:
                lost += 1
                self.beat_every_keeper(numbers, hours, plan, state)
        self.assertGreater(lost, 20)

    def test_large_ones_against_every_sea_and_river(self):
        for numbers, hours, plan in LARGE:
            states = [state for state in all_states(numbers) if not plan.is_kept(0, state)]
            for state in states[::max(1, len(states) // 4)]:
                for shut in (False, True):
                    since = since_behind(numbers, state, shut)
                    if since is not None:
                        self.assertEqual(
                            plan.beaten_by(0, state, shut), self.first(numbers, hours[0], plan, state, shut, since))

    def first(self, numbers, hour, plan, state, shut, since):
        brought = {}
        for sea, river in all_weather(hour):
            brought.setdefault(level_behind(numbers, state[0], shut, sea, river), (sea, river))
        lost = [
            level for level in brought
            if not is_good_hour(numbers, hour, shut, level) or not plan.is_kept(1, (level, shut, since))]
        return brought[max(lost)]


if __name__ == "__main__":
    unittest.main()
