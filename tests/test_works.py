import random
import unittest

from surgekept.errors import InvalidMove, InvalidState, InvalidWorks
from surgekept.works import Course, Works, is_good, span
from tests.reference import all_states, all_weather, is_good_hour, level_behind, since_behind, small_cases

NO_INTEGERS = (None, True, False, "1", 1.0, (1,), [1])


class WorksBoundsTest(unittest.TestCase):

    def test_good_works_at_the_bounds(self):
        for numbers in (
                (1, 1, 0, 1, 0), (200, 400, 400, 6, 200), (200, 1, 0, 6, 0), (1, 400, 400, 1, 1),
                (9, 3, 2, 1, 0), (7, 3, 2, 4, 7)):
            works = Works(*numbers)
            self.assertEqual((works.wall, works.flow, works.pump, works.rest, works.deep), numbers)

    def test_one_number_out_of_its_bounds(self):
        good = (20, 3, 2, 4, 0)
        bad = {
            0: (0, -1, 201, 1000), 1: (0, -1, 401, 1000), 2: (-1, -5, 401, 1000),
            3: (0, -1, 7, 60), 4: (-1, 21, 200, 201),
        }
        for place, values in bad.items():
            for value in (*values, *NO_INTEGERS):
                numbers = list(good)
                numbers[place] = value
                with self.subTest(numbers=numbers), self.assertRaises(InvalidWorks):
                    Works(*numbers)

    def test_a_low_wall_and_deep(self):
        with self.assertRaises(InvalidWorks):
            Works(4, 3, 2, 4, 5)
        with self.assertRaises(InvalidWorks):
            Works(200, 3, 2, 4, 201)
        self.assertEqual(Works(5, 3, 2, 4, 5).deep, 5)


class StateTest(unittest.TestCase):

    def setUp(self):
        self.works = Works(9, 3, 2, 4, 0)
        self.bad = [
            (-1, False, 1), (10, False, 1), (200, True, 1), (5, False, 0), (5, True, -1), (5, True, 5), (5, False, 6),
            (5, 0, 1), (5, 1, 1), (5, None, 1), (5, "shut", 1),
            (), (5,), (5, False), (5, False, 1, 1), [5, False, 1], None, 5, "5 open 1", {},
        ]
        for value in NO_INTEGERS:
            self.bad += [(value, False, 1), (5, True, value)]

    def test_good_states(self):
        for level in (0, 1, 5, 9):
            for shut in (False, True):
                for since in (1, 2, 3, 4):
                    self.assertIsNone(self.works.check_state((level, shut, since)))

    def test_bad_states(self):
        for state in self.bad:
            with self.subTest(state=state):
                with self.assertRaises(InvalidState):
                    self.works.check_state(state)
                with self.assertRaises(InvalidState):
                    self.works.may_move(state)
                for shut in (False, True):
                    with self.assertRaises(InvalidState):
                        self.works.moved(state, shut)

    def test_the_bounds_are_those_of_the_works(self):
        for wall in (1, 7, 200):
            for rest in (1, 2, 6):
                works = Works(wall, 3, 2, rest, 0)
                works.check_state((wall, True, rest))
                for state in ((wall + 1, True, rest), (wall, True, rest + 1)):
                    with self.assertRaises(InvalidState):
                        works.check_state(state)


class MoveTest(unittest.TestCase):

    def test_against_the_document_for_every_rest(self):
        for rest in (1, 2, 3, 4, 5, 6):
            numbers = (3, 2, 1, rest, 0)
            works = Works(*numbers)
            for state in all_states(numbers):
                self.assertIs(works.may_move(state), state[2] == rest)
                for shut in (False, True):
                    since = since_behind(numbers, state, shut)
                    if since is None:
                        with self.assertRaises(InvalidMove):
                            works.moved(state, shut)
                    else:
                        self.assertEqual(works.moved(state, shut), since)

    def test_told_by_hand(self):
        works = Works(9, 3, 2, 3, 0)
        self.assertEqual(works.moved((4, False, 1), False), 2)
        self.assertEqual(works.moved((4, True, 2), True), 3)
        self.assertEqual(works.moved((4, True, 3), True), 3)
        self.assertEqual(works.moved((4, True, 3), False), 1)
        self.assertEqual(works.moved((4, False, 3), True), 1)
        for state, shut in (((4, False, 2), True), ((4, True, 1), False)):
            with self.assertRaises(InvalidMove):
                works.moved(state, shut)


class LevelTest(unittest.TestCase):

    def test_told_by_hand(self):
        works = Works(9, 3, 2, 1, 0)
        for level, sea, river, behind in (
                (5, 5, 0, 5), (5, 7, 0, 7), (5, 8, 0, 8), (5, 9, 0, 8), (5, 400, 1, 9),
                (5, 3, 0, 3), (5, 2, 0, 2), (5, 1, 0, 2), (5, 0, 4, 6), (0, 0, 0, 0), (9, 12, 400, 412)):
            self.assertEqual(works.next_level(level, False, sea, river), behind)
        for level, river, behind in ((5, 0, 3), (5, 2, 5), (5, 400, 403), (2, 0, 0), (1, 0, 0), (0, 1, 0), (0, 3, 1)):
            for sea in (0, 5, 400):
                self.assertEqual(works.next_level(level, True, sea, river), behind)

    def test_small_works_for_every_level_sea_and_river(self):
        for flow in (1, 2, 5):
            for pump in (0, 1, 4):
                numbers = (4, flow, pump, 1, 0)
                works = Works(*numbers)
                for level in range(5):
                    for sea, river in all_weather((0, 12, 0, 6, False)):
                        for shut in (False, True):
                            self.assertEqual(
                                works.next_level(level, shut, sea, river),
                                level_behind(numbers, level, shut, sea, river))

    def test_the_whole_range_of_works(self):
        chance = random.Random(22)
        for _ in range(4000):
            wall = chance.randint(1, 200)
            numbers = (wall, chance.randint(1, 400), chance.randint(0, 400), 1, 0)
            level = chance.randint(0, wall)
            near = min(400, max(0, level + chance.randint(-3, 3)))
            sea = chance.choice((near, chance.randint(0, 400)))
            river = chance.randint(0, 400)
            for shut in (False, True):
                self.assertEqual(
                    Works(*numbers).next_level(level, shut, sea, river),
                    level_behind(numbers, level, shut, sea, river))


class SpanTest(unittest.TestCase):

    def test_the_levels_between_its_ends_are_those_that_come(self):
        for numbers, hours in small_cases(31, 120):
            works, course = Works(*numbers), Course(hours)
            for number, hour in enumerate(hours):
                for level in range(numbers[0] + 1):
                    for shut in (False, True):
                        least, greatest = span(works, course, number, level, shut)
                        come = {level_behind(numbers, level, shut, *weather) for weather in all_weather(hour)}
                        self.assertEqual(sorted(come), list(range(least, greatest + 1)))

    def test_told_by_hand(self):
        works, course = Works(9, 3, 2, 1, 0), Course([(4, 6, 0, 1, False), (0, 400, 1, 400, True)])
        self.assertEqual(span(works, course, 0, 5, False), (4, 7))
        self.assertEqual(span(works, course, 0, 5, True), (3, 4))
        self.assertEqual(span(works, course, 0, 1, True), (0, 0))
        self.assertEqual(span(works, course, 1, 5, False), (3, 408))
        self.assertIsInstance(span(works, course, 0, 5, False), tuple)

    def test_an_hour_that_is_not_there(self):
        works, course = Works(9, 3, 2, 1, 0), Course([(4, 6, 0, 1, False)] * 2)
        for number in (-1, 2, 72, *NO_INTEGERS):
            for shut in (False, True):
                with self.subTest(number=number), self.assertRaises(InvalidState):
                    span(works, course, number, 5, shut)


class GoodTest(unittest.TestCase):

    def test_against_the_document(self):
        for numbers in ((5, 1, 0, 1, 0), (5, 1, 0, 1, 2), (5, 1, 0, 1, 5)):
            hours = [(0, 9, 0, 9, False), (0, 9, 0, 9, True)]
            works, course = Works(*numbers), Course(hours)
            for number, hour in enumerate(hours):
                for level in range(20):
                    for shut in (False, True):
                        self.assertIs(
                            is_good(works, course, number, shut, level), is_good_hour(numbers, hour, shut, level))

    def test_told_by_hand(self):
        works, course = Works(9, 3, 2, 1, 4), Course([(0, 9, 0, 9, False), (0, 9, 0, 9, True)])
        for number, shut, level, good in (
                (0, False, 0, True), (0, True, 0, True), (0, False, 9, True), (0, True, 9, True),
                (0, False, 10, False), (0, True, 10, False),
                (1, False, 3, False), (1, False, 4, True), (1, False, 9, True), (1, False, 10, False),
                (1, True, 4, False), (1, True, 9, False)):
            self.assertIs(is_good(works, course, number, shut, level), good)

    def test_an_hour_that_is_not_there(self):
        works, course = Works(9, 3, 2, 1, 0), Course([(4, 6, 0, 1, False)] * 2)
        for number in (-1, 2, 72, *NO_INTEGERS):
            for level in (5, 10):
                with self.subTest(number=number), self.assertRaises(InvalidState):
                    is_good(works, course, number, False, level)


if __name__ == "__main__":
    unittest.main()
