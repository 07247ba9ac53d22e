import unittest

from surgekept.errors import InvalidCourse, InvalidState
from surgekept.works import Course
from tests.reference import small_cases

HOUR = (2, 5, 1, 3, False)
NO_INTEGERS = (None, True, False, "1", 1.0, (1,), [1])
NO_FLAGS = (0, 1, None, "ship", ())


def bad_hours():
    hours = [
        (6, 5, 1, 3, False), (2, 5, 4, 3, False), (400, 0, 1, 3, False), (2, 5, 400, 399, True),
        (2, 401, 1, 3, False), (401, 401, 1, 3, False), (-1, 5, 1, 3, False), (-2, -1, 1, 3, False),
        (2, 5, -1, 3, True), (2, 5, 1, 401, True), (2, 5, 401, 401, True),
        (), (2, 5, 1, 3), (2, 5, 1, 3, False, False), [2, 5, 1, 3, False], None, 7, "hour", {},
    ]
    for value in NO_INTEGERS:
        for place in range(4):
            hour = list(HOUR)
            hour[place] = value
            hours.append(tuple(hour))
    return hours + [(2, 5, 1, 3, value) for value in NO_FLAGS]


class CourseTest(unittest.TestCase):

    def test_good_hours_at_the_bounds(self):
        for hour in (
                (0, 0, 0, 0, False), (400, 400, 400, 400, True), (0, 400, 0, 400, False),
                (2, 2, 3, 3, True), (1, 0 + 1, 0, 1, False), HOUR):
            course = Course([hour])
            self.assertEqual(course.hours, [hour])
            self.assertEqual(course.hour(0), hour)

    def test_bad_hours(self):
        for hour in bad_hours():
            for hours in ([hour], [HOUR, hour], [hour, HOUR], [HOUR] * 71 + [hour]):
                with self.subTest(hour=hour), self.assertRaises(InvalidCourse):
                    Course(hours)

    def test_the_number_of_hours(self):
        for many in (1, 2, 71, 72):
            self.assertEqual(Course([HOUR] * many).count(), many)
        for many in (0, 73, 100):
            with self.assertRaises(InvalidCourse):
                Course([HOUR] * many)
        for hours in (None, 5, "hours", HOUR, (HOUR,), {0: HOUR}):
            with self.assertRaises(InvalidCourse):
                Course(hours)

    def test_a_list_of_its_own(self):
        hours = [HOUR, (0, 1, 0, 1, True)]
        course = Course(hours)
        self.assertEqual(hours, [HOUR, (0, 1, 0, 1, True)])
        hours[0] = (9, 9, 9, 9, True)
        hours.append(HOUR)
        self.assertEqual(course.hours, [HOUR, (0, 1, 0, 1, True)])
        self.assertEqual(course.count(), 2)

    def test_hours_by_number(self):
        hours = [(number, number + 1, 0, 1, number % 2 == 0) for number in range(72)]
        course = Course(hours)
        for number in range(72):
            self.assertEqual(course.hour(number), hours[number])
        for number in (-1, -72, 72, 73, *NO_INTEGERS):
            with self.subTest(number=number):
                with self.assertRaises(InvalidState):
                    course.hour(number)
                with self.assertRaises(InvalidState):
                    course.has(number, 0, 0)

    def test_has_just_what_is_within_the_bounds(self):
        course = Course([HOUR, (0, 400, 0, 400, True), (3, 3, 0, 0, False)])
        for number, (sea_low, sea_high, river_low, river_high, _) in enumerate(course.hours):
            for sea in (-1, 0, 1, 2, 3, 4, 5, 6, 399, 400, 401):
                for river in (-1, 0, 1, 2, 3, 4, 400, 401):
                    within = sea in range(sea_low, sea_high + 1) and river in range(river_low, river_high + 1)
                    self.assertIs(course.has(number, sea, river), within)


class NarrowedTest(unittest.TestCase):

    def test_every_hour_near_another_one(self):
        old = (2, 4, 1, 3, True)
        hours = [HOUR, old, (0, 9, 0, 9, True)]
        course = Course(hours)
        near = [
            (sea_low, sea_high, river_low, river_high, ship)
            for sea_low in range(1, 6) for sea_high in range(sea_low, 6)
            for river_low in range(5) for river_high in range(river_low, 5) for ship in (False, True)
        ]
        for hour in near:
            within = (
                set(range(hour[0], hour[1] + 1)) <= {2, 3, 4}
                and set(range(hour[2], hour[3] + 1)) <= {1, 2, 3} and hour[4])
            if within:
                self.assertEqual(course.narrowed(1, hour).hours, [HOUR, hour, (0, 9, 0, 9, True)])
            else:
                with self.subTest(hour=hour), self.assertRaises(InvalidCourse):
                    course.narrowed(1, hour)
        self.assertEqual(course.hours, [HOUR, old, (0, 9, 0, 9, True)])
        self.assertEqual(hours, [HOUR, old, (0, 9, 0, 9, True)])

    def test_the_first_and_the_last_hour(self):
        course = Course([(0, 9, 0, 9, False)] * 3)
        self.assertEqual(course.narrowed(0, HOUR).hours, [HOUR] + [(0, 9, 0, 9, False)] * 2)
        self.assertEqual(course.narrowed(2, HOUR).hours, [(0, 9, 0, 9, False)] * 2 + [HOUR])
        twice = course.narrowed(0, HOUR).narrowed(0, (3, 3, 2, 2, False))
        self.assertEqual(twice.hour(0), (3, 3, 2, 2, False))

    def test_another_ship(self):
        for ship in (False, True):
            with self.assertRaises(InvalidCourse):
                Course([(0, 9, 0, 9, ship)]).narrowed(0, (2, 5, 1, 3, not ship))

    def test_bad_hours_come_ahead_of_a_bad_number(self):
        course = Course([(0, 400, 0, 400, False)] * 2)
        for hour in bad_hours():
            for number in (0, 1, 2, -1, True):
                with self.subTest(hour=hour, number=number), self.assertRaises(InvalidCourse):
                    course.narrowed(number, hour)

    def test_a_bad_number_comes_ahead_of_wider_bounds(self):
        course = Course([HOUR] * 2)
        for hour in (HOUR, (0, 9, 0, 9, False), (2, 5, 1, 3, True)):
            for number in (-1, 2, 72, *NO_INTEGERS):
                with self.subTest(hour=hour, number=number), self.assertRaises(InvalidState):
                    course.narrowed(number, hour)


class RaisedTest(unittest.TestCase):

    def test_the_greatest_seas_alone(self):
        for _, hours in small_cases(41, 60):
            course = Course(hours)
            for surge in (0, 1, 7, 300):
                expected = [(low, high + surge, *rest) for low, high, *rest in hours]
                self.assertEqual(course.raised(surge).hours, expected)
                self.assertEqual(course.hours, hours)

    def test_above_the_greatest_number(self):
        course = Course([(0, 9, 0, 400, False), (0, 390, 0, 400, True)])
        self.assertEqual(course.raised(10).hours, [(0, 19, 0, 400, False), (0, 400, 0, 400, True)])
        for surge in (11, 400, 1000):
            with self.assertRaises(InvalidCourse):
                course.raised(surge)


if __name__ == "__main__":
    unittest.main()
