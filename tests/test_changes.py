"""What a narrower, higher, raised or shorter problem keeps beside another one."""

import random
import unittest

from surgekept.plan import Plan
from surgekept.works import Course, Works
from tests.reference import all_states, large_cases, small_cases

CASES = small_cases(71, 120) + large_cases(72, 6)


def plan_of(numbers, hours):
    return Plan(Works(*numbers), Course(hours))


def narrower(chance, low, high):
    low = chance.randint(low, high)
    return low, chance.randint(low, high)


class ChangesTest(unittest.TestCase):

    def keeps_no_less(self, numbers, more, less, numbers_of_hours):
        """All that `less` keeps is kept by `more`, with no more shut hours; tell what is new."""
        new = 0
        for number in numbers_of_hours:
            for state in all_states(numbers):
                worst = less.worst(number, state)
                if worst is not None:
                    self.assertTrue(more.is_kept(number, state))
                    self.assertLessEqual(more.worst(number, state), worst)
                else:
                    new += more.is_kept(number, state)
        return new

    def test_narrower_bounds(self):
        chance, new = random.Random(73), 0
        for numbers, hours in CASES:
            course = Course(hours)
            for number, (sea_low, sea_high, river_low, river_high, ship) in enumerate(hours):
                sea = narrower(chance, sea_low, sea_high)
                course = course.narrowed(number, (*sea, *narrower(chance, river_low, river_high), ship))
            plan = Plan(Works(*numbers), course)
            new += self.keeps_no_less(numbers, plan, plan_of(numbers, hours), range(len(hours) + 1))
        self.assertGreater(new, 100)

    def test_a_higher_wall(self):
        new = 0
        for numbers, hours in CASES:
            wall, *others = numbers
            for higher in (min(200, wall + 1), min(200, wall + 5)):
                plan = plan_of((higher, *others), hours)
                new += self.keeps_no_less(numbers, plan, plan_of(numbers, hours), range(len(hours) + 1))
        self.assertGreater(new, 100)

    def test_raised_seas(self):
        new = 0
        for numbers, hours in CASES:
            for surge in (0, 1, 4):
                raised = Plan(Works(*numbers), Course(hours).raised(surge))
                new += self.keeps_no_less(numbers, plan_of(numbers, hours), raised, range(len(hours) + 1))
        self.assertGreater(new, 100)

    def test_the_beginning_of_a_course(self):
        new = 0
        for numbers, hours in CASES:
            longer = plan_of(numbers, hours)
            for many in {1, len(hours) // 2, len(hours) - 1} - {0}:
                shorter = plan_of(numbers, hours[:many])
                new += self.keeps_no_less(numbers, shorter, longer, range(many + 1))
        self.assertGreater(new, 100)


if __name__ == "__main__":
    unittest.main()
